package marshal_test

import (
	"math"
	"strings"
	"testing"

	"marshal/api"
	"marshal/marshal"
	"marshal/plain"
)

// nop is a call without an argument, of 40 bytes, and nopped the record's answer as a fragment.
func nop(xid int64) string    { return head(xid, 77, 5, 0) }
func nopped(xid int64) string { return record(taken(xid, 0)) }

// fed is a chunk, what it is answered with, and whether the stream has ended behind it.
type fed struct {
	chunk, want string
	closed      bool
}

// checkFed feeds a server chunk by chunk, and then another one byte by byte.
func checkFed(t *testing.T, most int, chunks ...fed) {
	t.Helper()
	x, y := mustServe(t, office, wide, most, echo), mustServe(t, office, wide, most, echo)
	for i, c := range chunks {
		if got := x.Feed(c.chunk); got != c.want || x.Closed() != c.closed {
			t.Errorf("at most %d: chunk %d is answered with %.99q, closed: %v, want %.99q, %v", most, i, got, x.Closed(), c.want, c.closed)
		}
		if got := byBytes(y, c.chunk); got != c.want || y.Closed() != c.closed {
			t.Errorf("at most %d: chunk %d, byte by byte, is answered with %.99q, closed: %v, want %.99q, %v", most, i, got, y.Closed(), c.want, c.closed)
		}
	}
}

// byBytes feeds a server one byte at a time.
func byBytes(x *marshal.Server, chunk string) string {
	var out strings.Builder
	for i := range len(chunk) {
		out.WriteString(x.Feed(chunk[i : i+1]))
	}
	return out.String()
}

func TestP12Records(t *testing.T) {
	checkFed(t, 999, fed{record(nop(1)), nopped(1), false})
	checkFed(t, 999, fed{record(nop(1)) + record(nop(2)) + record(nop(3)), nopped(1) + nopped(2) + nopped(3), false})
	checkFed(t, 999, fed{record(nop(1)), nopped(1), false}, fed{"", "", false}, fed{record(nop(2)), nopped(2), false}, fed{record(nop(3)), nopped(3), false})
	checkFed(t, 999, fed{record("") + record("x") + record(nop(1)) + record("") + record(nop(2)), nopped(1) + nopped(2), false})
	checkFed(t, 999, fed{"", "", false})
}

func TestP12RecordsOfSeveralFragments(t *testing.T) {
	a := nop(1)
	for i := range len(a) + 1 {
		checkFed(t, 40, fed{fragment(a[:i]) + record(a[i:]), nopped(1), false}, fed{record(nop(2)), nopped(2), false})
		checkFed(t, 40, fed{fragment("") + fragment(a[:i]) + fragment("") + fragment("") + record(a[i:]), nopped(1), false}, fed{record(nop(2)), nopped(2), false})
		checkFed(t, 40, fed{fragment(a[:i]) + fragment(a[i:]), "", false}, fed{record(""), nopped(1), false}, fed{record(nop(2)), nopped(2), false})
	}
	var single strings.Builder
	for i := range len(a) {
		single.WriteString(fragment(a[i : i+1]))
	}
	checkFed(t, 40, fed{single.String(), "", false}, fed{record(""), nopped(1), false})
	checkFed(t, 40, fed{strings.Repeat(fragment(""), 10000), "", false}, fed{record(a), nopped(1), false})
}

// An answer comes with the chunk in which its record ends, and not ahead of it.
func TestP12AnswersComeWhenARecordEnds(t *testing.T) {
	one := record(nop(1))
	for i := range len(one) {
		checkFed(t, 40, fed{one[:i], "", false}, fed{one[i:], nopped(1), false})
		checkFed(t, 40, fed{one + one[:i], nopped(1), false}, fed{one[i:] + record(nop(2)), nopped(1) + nopped(2), false})
	}
	empty := fragment(nop(1)) + record("")
	for i := range len(empty) {
		checkFed(t, 40, fed{empty[:i], "", false}, fed{empty[i:], nopped(1), false})
	}
}

func TestP12RecordsThatAreTooLong(t *testing.T) {
	a := nop(1)
	behind := fed{record(nop(3)) + record("") + strings.Repeat("\x00", 99), "", true}
	for _, n := range []int64{41, 42, 1 << 8, 1 << 16, 1 << 24, math.MaxInt32} {
		for _, bit := range []int64{0, last} {
			checkFed(t, 40, fed{words32(n + bit), "", true}, behind, fed{"", "", true})
			checkFed(t, 40, fed{record(a) + record(nop(2)) + words32(n+bit) + record(nop(3)), nopped(1) + nopped(2), true}, behind)
			checkFed(t, 40, fed{record(a), nopped(1), false}, fed{words32(n + bit)[:3], "", false}, fed{words32(n + bit)[3:], "", true}, behind)
			checkFed(t, 40, fed{fragment("") + fragment("x") + words32(n+bit), "", true}, behind)
		}
	}
	for i := range 41 {
		left := int64(40 - i)
		checkFed(t, 40, fed{fragment(a[:i]) + words32(last+left), whenOver(left, nopped(1)), false}, fed{a[i:], whenSome(left, nopped(1)), false}, fed{record(nop(2)), nopped(2), false})
		checkFed(t, 40, fed{fragment(a[:i]) + words32(last+left+1), "", true}, fed{a[i:] + "x", "", true}, behind)
		checkFed(t, 40, fed{fragment(a[:i]) + words32(left+1), "", true}, fed{a[i:] + "x", "", true}, behind)
		checkFed(t, 40, fed{fragment(a[:i]) + fragment(a[i:]) + fragment("") + words32(1), "", true}, behind)
	}
}

// whenOver gives an answer, if a record with so many bytes left ends with its last fragment's word, and whenSome, if with the bytes behind it.
func whenOver(left int64, answer string) string {
	if left == 0 {
		return answer
	}
	return ""
}

func whenSome(left int64, answer string) string {
	if left > 0 {
		return answer
	}
	return ""
}

func TestP12TheLeastAndTheGreatestBound(t *testing.T) {
	checkFed(t, 0, fed{record("") + fragment("") + record(""), "", false}, fed{words32(1), "", true}, fed{"x" + record(""), "", true})
	checkFed(t, 0, fed{words32(last + 1), "", true}, fed{"x", "", true})
	checkFed(t, 11, fed{record(words32(1, 0, 3)[:11]), "", false}, fed{record(words32(1, 0, 3)), "", true})
	checkFed(t, 12, fed{record(words32(1, 0, 3)), record(refused(1)), false}, fed{words32(13), "", true})
	long := nop(1) + strings.Repeat("\x00", 99960)
	checkFed(t, 100000, fed{record(long), record(taken(1, 4)), false}, fed{fragment(long[:70000]) + fragment(long[70000:99999]) + record(long[99999:]), record(taken(1, 4)), false}, fed{record(nop(2)), nopped(2), false}, fed{words32(last + 100001), "", true}, fed{long, "", true})
	checkFed(t, 99999, fed{words32(last + 100000), "", true})
}

// What the last bit of a fragment's word says is not among the number of its bytes.
func TestP12TheHighestBitAlone(t *testing.T) {
	checkFed(t, 100000, fed{"\x80\x00\x00\x00", "", false}, fed{"\x00\x00\x00\x28", "", false}, fed{nop(1), "", false}, fed{"\x80\x00\x00\x00", nopped(1), false}, fed{"\xc0\x00\x00\x00", "", true})
	checkFed(t, 100000, fed{"\x40\x00\x00\x00", "", true})
	checkFed(t, 100000, fed{"\xff\xff\xff\xff", "", true})
}

// While an answer is asked for the stream has come to the end of its record, however it is cut.
func TestP12WhatAnAnswerSeesOfItsServer(t *testing.T) {
	stream := record(nop(1)) + record(nop(2)) + words32(41)
	for _, feed := range []func(x *marshal.Server, chunk string) string{(*marshal.Server).Feed, byBytes} {
		var x *marshal.Server
		var seen []bool
		x = mustServe(t, office, wide, 40, func(c api.Call, arg []api.Node) ([]api.Node, error) {
			seen = append(seen, x.Closed())
			return nil, nil
		})
		if got := feed(x, stream); got != nopped(1)+nopped(2) || !x.Closed() || len(seen) != 2 || seen[0] || seen[1] {
			t.Errorf("%q; closed: %v, and meanwhile: %v", got, x.Closed(), seen)
		}
		inner := ""
		x = mustServe(t, office, wide, 40, func(c api.Call, arg []api.Node) ([]api.Node, error) {
			if inner == "" {
				inner = "none"
				inner = x.Feed(record(nop(7)) + record(nop(8))[:9])
			}
			return nil, nil
		})
		if got := feed(x, record(nop(1))+record(nop(8))[9:]+record(nop(2))); got != nopped(1)+nopped(8)+nopped(2) || inner != nopped(7) {
			t.Errorf("an answer that feeds: %q, and meanwhile %q", got, inner)
		}
		x = mustServe(t, office, wide, 40, func(c api.Call, arg []api.Node) ([]api.Node, error) {
			x.Feed(words32(41))
			return nil, nil
		})
		if got := feed(x, stream); got != nopped(1) || !x.Closed() {
			t.Errorf("an answer that ends the stream: %q; closed: %v", got, x.Closed())
		}
	}
}

func TestP2ClosedChangesNothing(t *testing.T) {
	x := mustServe(t, office, wide, 40, plain.Answers(1))
	stream := fragment(nop(1)[:9]) + record(nop(1)[9:]) + record(nop(2)) + words32(41)
	var out strings.Builder
	for i := range len(stream) {
		ended := i == len(stream)-1
		for range 3 {
			if x.Closed() {
				t.Fatalf("closed ahead of byte %d", i)
			}
		}
		out.WriteString(x.Feed(stream[i : i+1]))
		for range 3 {
			if x.Closed() != ended {
				t.Fatalf("closed behind byte %d: %v", i, !ended)
			}
		}
	}
	if out.String() != nopped(1)+nopped(2) {
		t.Errorf("the answers are %q", out.String())
	}
}

func TestP2ServersHangOnNothingElse(t *testing.T) {
	s := mustRead(t, office)
	var servers []*marshal.Server
	for n := range 3 {
		x, err := s.Serve(wide, 40+n, plain.Answers(5+n))
		if err != nil {
			t.Fatal(err)
		}
		servers = append(servers, x)
	}
	ask := head(1, -1, 1<<31, 7)
	servers[0].Feed(words32(41))
	servers[1].Feed(fragment(ask[:20]))
	if got := servers[2].Feed(record(ask)); got != record(taken(1, 0, 7)) {
		t.Errorf("the third server gives %q", got)
	}
	if got := servers[1].Feed(record(ask[20:])); got != record(taken(1, 0, 6)) {
		t.Errorf("the second server gives %q", got)
	}
	if !servers[0].Closed() || servers[1].Closed() || servers[2].Closed() {
		t.Error("the wrong streams have ended")
	}
}
