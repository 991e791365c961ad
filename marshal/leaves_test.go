package marshal_test

import (
	"iter"
	"slices"
	"testing"

	"marshal/api"
	"marshal/plain"
)

const leafy = "enum E { A = 0, B = -3 }; struct P { E e; string s<5>; }; typedef P L<3>; typedef opaque O[2]; typedef int I<3>; struct T { O one; int n; L l; U u; O *last; }; union U switch (E k) { case A: opaque o<>; default: void; };"

// leafyBytes is a T, with each kind of text.
const leafyBytes = "a1\x00\x00" + "\x00\x00\x00\x07" + "\x00\x00\x00\x02" + "\x00\x00\x00\x00\x00\x00\x00\x00" + "\xff\xff\xff\xfd\x00\x00\x00\x05bcdef\x00\x00\x00" + "\x00\x00\x00\x00\x00\x00\x00\x04ghij" + "\x00\x00\x00\x01k2\x00\x00"

var leafyTexts = []api.Node{textAt("a1", 0), textAt("", 20), textAt("bcdef", 28), textAt("ghij", 44), textAt("k2", 52)}

func TestP10LeavesAreTheTextsInOrder(t *testing.T) {
	s := mustRead(t, leafy)
	if got := leaves(s.Leaves("T", leafyBytes, wide)); !slices.Equal(got, leafyTexts) {
		t.Errorf("Leaves goes through %v", got)
	}
	for _, c := range []decoded{
		gives("O", "zz\x00\x00", textAt("zz", 0)), gives("U", words32(0, 0), textAt("", 8)), gives("U", words32(-3)), gives("I", words32(2, 5, 6)), gives("I", words32(0)), gives("E", words32(0)), gives("L", words32(0)),
		gives("L", words32(2, 0, 0, -3, 0), textAt("", 12), textAt("", 20)),
	} {
		if got := leaves(s.Leaves(c.name, c.b, wide)); !slices.Equal(got, c.v) {
			t.Errorf("Leaves(%q, %q) goes through %v, want %v", c.name, c.b, got, c.v)
		}
	}
}

func TestP10LeavesStopWhenTold(t *testing.T) {
	s := mustRead(t, leafy)
	all := s.Leaves("T", leafyBytes, wide)
	for stop := 1; stop <= len(leafyTexts); stop++ {
		var got []api.Node
		all(func(n api.Node) bool {
			got = append(got, n)
			return len(got) < stop
		})
		if !slices.Equal(got, leafyTexts[:stop]) {
			t.Errorf("told to stop at %d, Leaves went through %v", stop, got)
		}
	}
	for most := range len(leafyTexts) + 2 {
		if got := plain.First(s, "T", leafyBytes, wide, most); !slices.Equal(got, leafyTexts[:min(most, len(leafyTexts))]) {
			t.Errorf("the first %d are %v", most, got)
		}
	}
}

func TestP10LeavesMayBeAskedAgain(t *testing.T) {
	s := mustRead(t, leafy)
	all := s.Leaves("T", leafyBytes, wide)
	for range 3 {
		for range all {
			break
		}
		if got := leaves(all); !slices.Equal(got, leafyTexts) {
			t.Errorf("asked again, Leaves goes through %v", got)
		}
	}
	rounds := 0
	for n := range all {
		if n != leafyTexts[rounds] || !slices.Equal(leaves(all), leafyTexts) {
			t.Errorf("asked within itself, Leaves has changed at %d", rounds)
		}
		rounds++
	}
	next, stop := iter.Pull(iter.Seq[api.Node](all))
	defer stop()
	if n, ok := next(); !ok || n != leafyTexts[0] || !slices.Equal(leaves(all), leafyTexts) {
		t.Errorf("pulled, Leaves gives %v", n)
	}
	if n, ok := next(); !ok || n != leafyTexts[1] {
		t.Errorf("pulled once more, Leaves gives %v", n)
	}
}

// What stands ahead of a fault is not gone through either.
func TestP10LeavesOfAnErrorAreNone(t *testing.T) {
	s := mustRead(t, leafy)
	for _, c := range []decoded{
		fails("T", leafyBytes+"x", api.ErrTail, 56), fails("T", leafyBytes[:55]+"\x01", api.ErrPad, 55), fails("T", leafyBytes[:55], api.ErrShort, 52), fails("T", leafyBytes[:51]+"\x02", api.ErrWrong, 48), fails("T", leafyBytes[:11]+"\x04"+leafyBytes[12:], api.ErrCount, 8),
		{"T", leafyBytes, limits(4, 14, 56), nil, api.OK, 0}, {"T", leafyBytes, limits(3, 14, 56), nil, api.ErrDepth, 12}, {"T", leafyBytes, limits(4, 13, 56), nil, api.ErrFuel, 52}, {"T", leafyBytes, limits(4, 14, 55), nil, api.ErrSize, 0},
		{"X", leafyBytes, wide, nil, api.ErrNone, -1}, {"", "", wide, nil, api.ErrNone, -1}, {"T", leafyBytes, limits(65, 99, 99), nil, api.ErrLimits, -1}, {"T", leafyBytes, limits(4, -1, 99), nil, api.ErrLimits, -1},
	} {
		_, err := s.Decode(c.name, c.b, c.lim)
		if e, at := plain.Told(err); e != c.want || at != c.at {
			t.Errorf("Decode(%q, %q, %v): %v at %d, want %v at %d", c.name, c.b, c.lim, e, at, c.want, c.at)
		}
		all := s.Leaves(c.name, c.b, c.lim)
		for range 2 {
			if got := leaves(all); (len(got) > 0) != (c.want == api.OK) {
				t.Errorf("Leaves(%q, %q, %v) goes through %v", c.name, c.b, c.lim, got)
			}
		}
	}
}
