package records

import (
	"slices"
	"testing"
)

// told takes chunks, and gives the records that it is told of.
func told(s *Stream, chunks ...string) []string {
	var out []string
	for _, c := range chunks {
		s.Take(c, func(record string) { out = append(out, record) })
	}
	return out
}

const stream = "\x80\x00\x00\x03abc" + "\x00\x00\x00\x01d\x00\x00\x00\x00\x80\x00\x00\x02ef" + "\x80\x00\x00\x00" + "\x80\x00\x00\x00" + "\x00\x00\x00\x02gh\x80\x00\x00\x00" + "\x80\x00\x00\x01i"

func TestEveryRecordIsToldOnce(t *testing.T) {
	want := []string{"abc", "def", "", "", "gh", "i"}
	if got := told(New(3), stream); !slices.Equal(got, want) {
		t.Errorf("told of %q", got)
	}
	for i := range stream {
		if got := told(New(3), stream[:i], "", stream[i:]); !slices.Equal(got, want) {
			t.Errorf("cut at %d: told of %q", i, got)
		}
	}
	var bytes []string
	for i := range stream {
		bytes = append(bytes, stream[i:i+1])
	}
	if got := told(New(3), bytes...); !slices.Equal(got, want) {
		t.Errorf("byte by byte: told of %q", got)
	}
}

func TestNothingIsToldBehindTheEnd(t *testing.T) {
	s := New(2)
	if got := told(s, "\x80\x00\x00\x02ab\x80\x00\x00", "\x03abc"+stream); !slices.Equal(got, []string{"ab"}) || !s.Closed() {
		t.Errorf("told of %q; closed: %v", got, s.Closed())
	}
	if got := told(s, "\x80\x00\x00\x00"); got != nil {
		t.Errorf("told of %q", got)
	}
}

// Of a stream that has ended, and of records that have, nothing is kept.
func TestNoMoreIsKeptThanIsNeeded(t *testing.T) {
	s := New(3)
	told(s, stream)
	if s.record != nil || s.head != nil || s.left != 0 || s.ending {
		t.Errorf("kept is %+v", *s)
	}
	told(s, "\x00\x00\x00\x02ab\x80\x00\x00\x02")
	if s.record != nil || s.head != nil || !s.Closed() {
		t.Errorf("kept is %+v", *s)
	}
}

func TestARecordIsOneFragment(t *testing.T) {
	for _, r := range []string{"", "a", "abcd"} {
		if got := told(New(4), Fragment(r)); !slices.Equal(got, []string{r}) || len(Fragment(r)) != 4+len(r) {
			t.Errorf("%q becomes %q", r, Fragment(r))
		}
	}
}
