// Package records puts the records of a stream together (P12).
package records

import (
	"marshal/cursor"
	"marshal/encode"
)

const (
	word = 4       // bytes of the word with which a fragment begins
	last = 1 << 31 // the bit in it that says that the record ends with the fragment
)

// Stream is a stream as far as it has come.
type Stream struct {
	most   int    // bytes that a record may have
	head   []byte // what there is of a fragment's word
	left   int    // bytes that are missing to the end of the fragment
	ending bool   // the fragment is its record's last
	record []byte // what there is of the record
	closed bool
}

// New gives a stream of which nothing has come yet.
func New(most int) *Stream { return &Stream{most: most} }

// Closed tells whether the stream has ended.
func (s *Stream) Closed() bool { return s.closed }

// Take takes the next bytes, and tells the records that end in them. While one is told the stream has come no further than to its end: what is seen of it then does not hang on how the bytes are cut.
func (s *Stream) Take(chunk string, tell func(record string)) {
	for chunk != "" && !s.closed {
		chunk = chunk[s.piece(chunk):]
		if s.ending && s.left == 0 {
			tell(s.finish())
		}
	}
}

// piece takes what belongs together of a chunk, and gives how many bytes that are.
func (s *Stream) piece(chunk string) int {
	if s.left > 0 {
		n := min(s.left, len(chunk))
		s.record = append(s.record, chunk[:n]...)
		s.left -= n
		return n
	}
	n := min(word-len(s.head), len(chunk))
	s.head = append(s.head, chunk[:n]...)
	if len(s.head) == word {
		s.begin()
	}
	return n
}

// begin begins a fragment, when its word is there.
func (s *Stream) begin() {
	head := cursor.New(string(s.head))
	w := head.Word()
	s.head = nil
	s.left, s.ending = int(w&^last), w&last != 0
	if s.left > s.most-len(s.record) {
		*s = Stream{closed: true}
	}
}

// finish gives the record, and makes room for the next one.
func (s *Stream) finish() string {
	record := string(s.record)
	s.record, s.ending = nil, false
	return record
}

// Fragment gives a record as one fragment.
func Fragment(record string) string { return encode.Words(last|uint32(len(record))) + record }
