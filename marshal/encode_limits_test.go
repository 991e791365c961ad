package marshal_test

import (
	"math"
	"testing"

	"marshal/api"
)

func TestP8NamesOfTypesAlone(t *testing.T) {
	const source = "const K = 1; enum E { A = 0 }; typedef int T; struct S { int m; }; union U switch (int n) { case 1: int a; }; program P { version V { T f(T) = 1; } = 1; } = 1;"
	checkEncode(t, source,
		right("E", words32(0), num(0)), right("T", words32(0), num(0)), right("S", words32(0), list(1), num(0)), right("U", words32(1, 0), arm(1, 1), num(0)))
	for _, name := range []string{"", "K", "A", "m", "n", "a", "P", "V", "f", "X", "e", "E ", " E", "E\x00", "int", "void", "T;", "abcdefghijklmnopq", "\xff"} {
		checkEncode(t, source,
			encoded{name, value(num(0)), wide, "", api.ErrNone, -1}, encoded{name, nil, wide, "", api.ErrNone, -1},
			encoded{name, value(num(0)), limits(-1, -1, -1), "", api.ErrNone, -1}, encoded{name, value(num(0)), limits(65, 10001, 100001), "", api.ErrNone, -1})
	}
	checkEncode(t, "", encoded{"E", value(num(0)), wide, "", api.ErrNone, -1})
}

func TestP8Limits(t *testing.T) {
	const source = "typedef int T;"
	for _, n := range []int{-1, math.MinInt, math.MaxInt} {
		for _, lim := range []api.Limits{limits(n, 1, 4), limits(1, n, 4), limits(1, 1, n), limits(n, n, n)} {
			checkEncode(t, source, encoded{"T", value(num(0)), lim, "", api.ErrLimits, -1})
		}
	}
	for _, lim := range []api.Limits{limits(65, 10000, 100000), limits(64, 10001, 100000), limits(64, 10000, 100001), limits(65, 0, 0), limits(0, 10001, 0), limits(0, 0, 100001)} {
		checkEncode(t, source, encoded{"T", value(num(0)), lim, "", api.ErrLimits, -1}, encoded{"T", nil, lim, "", api.ErrLimits, -1}, encoded{"T", value(text("")), lim, "", api.ErrLimits, -1})
	}
	for _, lim := range []api.Limits{wide, limits(1, 1, 4), limits(64, 1, 4), limits(1, 10000, 4), limits(1, 1, 100000)} {
		checkEncode(t, source, encoded{"T", value(num(7)), lim, words32(7), api.OK, 0})
	}
	checkEncode(t, source, encoded{"T", value(num(7)), limits(0, 0, 0), "", api.ErrDepth, 0})
}

// checkDepth asks for a value by just as much Depth as it needs, and by one less.
func checkDepth(t *testing.T, source, name string, need, at int, b string, v ...api.Node) {
	t.Helper()
	checkEncode(t, source,
		encoded{name, v, limits(need, 10000, 100000), b, api.OK, 0},
		encoded{name, v, limits(need-1, 10000, 100000), "", api.ErrDepth, at})
}

func TestP8Depth(t *testing.T) {
	checkDepth(t, "typedef int a;", "a", 1, 0, words32(5), num(5))
	const source = "enum E { X = 1, Y = 2 }; typedef int a; typedef a b; typedef b c; struct S { int x; c c; a y; }; typedef S L<3>; typedef S M[1]; typedef S *O; union U switch (E k) { case 1: int x; case 2: c c; };"
	checkDepth(t, source, "b", 2, 0, words32(5), num(5))
	checkDepth(t, source, "c", 3, 0, words32(5), num(5))
	s := value(list(3), num(1), num(2), num(3))
	checkDepth(t, source, "S", 4, 2, words32(1, 2, 3), s...)
	checkDepth(t, source, "L", 5, 3, words32(1, 1, 2, 3), join(value(list(1)), s)...)
	checkDepth(t, source, "L", 5, 3, words32(2, 1, 2, 3, 1, 2, 3), join(value(list(2)), s, s)...)
	checkDepth(t, source, "L", 1, 0, words32(0), list(0))
	checkDepth(t, source, "M", 5, 3, words32(1, 2, 3), join(value(list(1)), s)...)
	checkDepth(t, source, "O", 5, 3, words32(1, 1, 2, 3), join(value(arm(1, 1)), s)...)
	checkDepth(t, source, "O", 1, 0, words32(0), arm(0, 0))
	checkDepth(t, source, "U", 1, 0, words32(1, 5), arm(1, 1), num(5))
	checkDepth(t, source, "U", 4, 1, words32(2, 5), arm(2, 1), num(5))
}

func TestP8DepthCountsWhatEncloses(t *testing.T) {
	const source = "typedef int a; struct S { a p; a q; a r[2]; a *s; a t<2>; }; struct T { S one; S two; a three; };"
	s := value(list(5), num(1), num(2), list(2), num(3), num(4), arm(1, 1), num(5), list(1), num(6))
	b := words32(1, 2, 3, 4, 1, 5, 1, 6)
	checkDepth(t, source, "S", 2, 1, b, s...)
	checkDepth(t, source, "T", 3, 2, b+b+words32(9), join(value(list(3)), s, s, value(num(9)))...)
	checkEncode(t, source, encoded{"T", value(list(3)), limits(1, 9, 99), "", api.ErrDepth, 1})
	checkEncode(t, "struct A { B b; C c; }; struct B { int x; }; typedef B C;",
		encoded{"A", value(list(2), list(1), num(1), list(1), num(2)), limits(2, 9, 99), "", api.ErrDepth, 3},
		encoded{"A", value(list(2), list(1), num(1), list(1), num(2)), limits(3, 9, 99), words32(1, 2), api.OK, 0})
}

func TestP8DepthOf64(t *testing.T) {
	const source = "struct T { T *next; }; typedef L L2; typedef L L3<1>; typedef L2 L4[1]; struct L { L l<1>; };"
	var v []api.Node
	var b string
	for range 63 {
		v = append(v, list(1), arm(1, 1))
		b += words32(1)
	}
	checkEncode(t, source,
		encoded{"T", join(v, value(list(1), arm(0, 0))), wide, b + words32(0), api.OK, 0},
		encoded{"T", join(v, value(list(1), arm(1, 1), list(1), arm(0, 0))), wide, "", api.ErrDepth, 128},
		encoded{"T", join(v, value(list(1), arm(1, 1))), wide, "", api.ErrDepth, 128},
		encoded{"T", join(v, value(list(1), arm(0, 0))), limits(63, 10000, 100000), "", api.ErrDepth, 126})
	v = nil
	for range 63 {
		v = append(v, list(1), list(1))
	}
	checkEncode(t, source,
		encoded{"L", join(v, value(list(1), list(0))), wide, b + words32(0), api.OK, 0},
		encoded{"L", join(v, value(list(1), list(1), list(1), list(0))), wide, "", api.ErrDepth, 128},
		encoded{"L2", join(v, value(list(1), list(0))), wide, "", api.ErrDepth, 126},
		encoded{"L3", join(value(list(1)), v, value(list(1), list(0))), wide, "", api.ErrDepth, 127},
		encoded{"L4", join(value(list(1)), v, value(list(1), list(0))), wide, "", api.ErrDepth, 125})
}

func TestP8Fuel(t *testing.T) {
	const source = "typedef int a; typedef int L<>; struct S { int x; a y; opaque z<9>; int *o; }; typedef L M<>;"
	s := value(list(4), num(1), num(2), text("abc"), arm(1, 1), num(3))
	b := words32(1, 2, 3) + "abc\x00" + words32(1, 3)
	for fuel := range len(s) {
		checkEncode(t, source, encoded{"S", s, limits(64, fuel, 100000), "", api.ErrFuel, fuel})
	}
	checkEncode(t, source, encoded{"S", s, limits(64, len(s), 100000), b, api.OK, 0}, encoded{"S", s, limits(64, len(s)+1, 100000), b, api.OK, 0},
		encoded{"a", value(num(1)), limits(1, 0, 4), "", api.ErrFuel, 0}, encoded{"a", value(num(1)), limits(1, 1, 4), words32(1), api.OK, 0},
		encoded{"L", value(list(0)), limits(1, 1, 4), words32(0), api.OK, 0})
	most := repeat(9999, num(7))
	var out []byte
	for range most {
		out = append(out, words32(7)...)
	}
	checkEncode(t, source,
		encoded{"L", join(value(list(9999)), most), wide, words32(9999) + string(out), api.OK, 0},
		encoded{"L", join(value(list(10000)), most, value(num(7))), wide, "", api.ErrFuel, 10000},
		encoded{"L", join(value(list(math.MaxUint32)), most), wide, "", api.ErrFuel, 10000},
		encoded{"L", join(value(list(9999)), most), limits(1, 9999, 100000), "", api.ErrFuel, 9999},
		encoded{"M", join(value(list(2), list(9998)), most), wide, "", api.ErrFuel, 10000})
}

func TestP8Size(t *testing.T) {
	const source = "typedef int i; typedef hyper h; typedef bool b; enum E { A = 7 }; typedef opaque f[5]; typedef opaque o<5>; typedef string s<5>; typedef int L<2>; typedef int *p; union U switch (int k) { case 1: void; case 2: int a; }; struct S { i i; h h; f f; o o; L l; p p; U u; };"
	// at is the first node without room when there is one byte too few for the value.
	for _, c := range []struct {
		name string
		v    []api.Node
		b    string
		at   int
	}{
		{"i", value(num(1)), words32(1), 0}, {"h", value(num(1)), words32(0, 1), 0}, {"b", value(num(1)), words32(1), 0}, {"E", value(num(7)), words32(7), 0},
		{"f", value(text("abcde")), "abcde\x00\x00\x00", 0}, {"o", value(text("abcde")), words32(5) + "abcde\x00\x00\x00", 0}, {"o", value(text("")), words32(0), 0}, {"s", value(text("abcd")), words32(4) + "abcd", 0},
		{"L", value(list(0)), words32(0), 0}, {"L", value(list(1), num(1)), words32(1, 1), 1}, {"p", value(arm(0, 0)), words32(0), 0}, {"p", value(arm(1, 1), num(2)), words32(1, 2), 1},
		{"U", value(arm(1, 0)), words32(1), 0}, {"U", value(arm(2, 1), num(3)), words32(2, 3), 1},
	} {
		checkEncode(t, source, encoded{c.name, c.v, limits(64, 99, len(c.b)), c.b, api.OK, 0}, encoded{c.name, c.v, limits(64, 99, len(c.b)+1), c.b, api.OK, 0},
			encoded{c.name, c.v, limits(64, 99, len(c.b)-1), "", api.ErrSize, c.at}, encoded{c.name, c.v, limits(64, 99, 0), "", api.ErrSize, 0})
	}
	v := value(list(7), num(1), num(2), text("abcde"), text("abc"), list(2), num(3), num(4), arm(1, 1), num(5), arm(2, 1), num(6))
	b := words32(1, 0, 2) + "abcde\x00\x00\x00" + words32(3) + "abc\x00" + words32(2, 3, 4, 1, 5, 2, 6)
	ends := []int{0, 4, 12, 20, 28, 32, 36, 40, 44, 48, 52, 56}
	checkEncode(t, source, encoded{"S", v, limits(64, 99, 56), b, api.OK, 0})
	for size := range 56 {
		at := 0
		for ends[at] <= size {
			at++
		}
		checkEncode(t, source, encoded{"S", v, limits(64, 99, size), "", api.ErrSize, at})
	}
}

func TestP8SizeOf100000(t *testing.T) {
	const source = "typedef opaque O<>; typedef O L<>; typedef hyper H<>;"
	long := make([]byte, 99996)
	checkEncode(t, source,
		encoded{"O", value(text(string(long))), wide, words32(99996) + string(long), api.OK, 0},
		encoded{"O", value(text(string(long[1:]))), wide, words32(99995) + string(long), api.OK, 0},
		encoded{"O", value(text(string(long) + "x")), wide, "", api.ErrSize, 0},
		encoded{"L", value(list(2), text(string(long[8:])), text("")), wide, words32(2, 99988) + string(long[8:]) + words32(0), api.OK, 0},
		encoded{"L", value(list(2), text(string(long[8:])), text("x")), wide, "", api.ErrSize, 2},
		encoded{"L", value(list(2), text(string(long[4:])), text("")), wide, "", api.ErrSize, 2},
		encoded{"L", value(list(2), text(string(long)), text("")), wide, "", api.ErrSize, 1})
}

func TestP8TheOrderAtANode(t *testing.T) {
	const source = "typedef int a; typedef a b; struct S { int x; a y; }; typedef opaque o<4>; struct Q { int x; o y; };"
	ok, wrong := value(list(2), num(1), num(2)), value(list(2), num(1), text("too long"))
	for _, v := range [][]api.Node{ok, wrong, ok[:2]} {
		checkEncode(t, source,
			encoded{"S", v, limits(1, 2, 4), "", api.ErrDepth, 2}, encoded{"S", v, limits(1, 3, 4), "", api.ErrDepth, 2}, encoded{"S", v, limits(1, 2, 8), "", api.ErrDepth, 2}, encoded{"S", v, limits(1, 3, 8), "", api.ErrDepth, 2},
			encoded{"S", v, limits(2, 2, 4), "", api.ErrFuel, 2}, encoded{"S", v, limits(2, 2, 8), "", api.ErrFuel, 2})
	}
	for _, v := range [][]api.Node{wrong, ok[:2]} {
		checkEncode(t, source, encoded{"S", v, limits(2, 3, 4), "", api.ErrType, 2}, encoded{"S", v, limits(2, 3, 8), "", api.ErrType, 2}, encoded{"Q", v, limits(2, 3, 4), "", api.ErrType, 2})
	}
	checkEncode(t, source,
		encoded{"S", ok, limits(2, 3, 7), "", api.ErrSize, 2}, encoded{"S", ok, limits(2, 3, 8), words32(1, 2), api.OK, 0},
		encoded{"b", nil, limits(0, 0, 0), "", api.ErrDepth, 0}, encoded{"b", nil, limits(1, 0, 0), "", api.ErrDepth, 0}, encoded{"b", nil, limits(2, 0, 0), "", api.ErrFuel, 0}, encoded{"b", nil, limits(2, 1, 0), "", api.ErrType, 0}, encoded{"b", value(num(1)), limits(2, 1, 0), "", api.ErrSize, 0}, encoded{"b", value(num(1)), limits(2, 1, 4), words32(1), api.OK, 0})
}

func TestP8TheFirstNodeWithAFaultCounts(t *testing.T) {
	const source = "typedef int a; typedef opaque o<4>; struct S { o x; o y; int z; };"
	checkEncode(t, source,
		encoded{"S", value(list(3), text("abcde"), text("abcde"), text("")), limits(64, 3, 0), "", api.ErrType, 1},
		encoded{"S", value(list(3), text("abcd"), text("abcde"), text("")), limits(64, 3, 7), "", api.ErrSize, 1},
		encoded{"S", value(list(3), text("abcd"), text("abcde"), text("")), limits(64, 3, 8), "", api.ErrType, 2},
		encoded{"S", value(list(3), text("abcd"), text("abcd"), text("")), limits(64, 3, 16), "", api.ErrFuel, 3},
		encoded{"S", value(list(3), text("abcd"), text("abcd"), text("")), limits(64, 4, 16), "", api.ErrType, 3},
		encoded{"S", value(list(3), text("abcd"), text("abcd"), num(0), num(0)), limits(64, 4, 19), "", api.ErrSize, 3},
		encoded{"S", value(list(3), text("abcd"), text("abcd"), num(0), num(0)), limits(64, 4, 20), "", api.ErrType, 4})
}

func TestP8NodesBehindTheValue(t *testing.T) {
	const source = "typedef int a; typedef a L<2>; struct S { int x; }; typedef a *O; union U switch (int k) { case 1: void; case 2: int x; };"
	checkEncode(t, source,
		bad("a", 1, num(1), num(2)), bad("a", 1, num(1), api.Node{}), bad("a", 1, num(1), num(2), num(3)),
		bad("L", 1, list(0), num(1)), bad("L", 2, list(1), num(1), num(2)), bad("L", 3, list(2), num(1), num(2), num(3)),
		bad("S", 2, list(1), num(1), num(2)), bad("O", 1, arm(0, 0), num(1)), bad("O", 2, arm(1, 1), num(1), num(1)), bad("U", 1, arm(1, 0), num(1)), bad("U", 2, arm(2, 1), num(1), num(1)),
		encoded{"a", value(num(1), num(2)), limits(1, 1, 4), "", api.ErrType, 1},
		encoded{"L", value(list(1), num(1), num(2)), limits(2, 2, 8), "", api.ErrType, 2},
		encoded{"a", join(value(num(1)), repeat(20000, num(2))), wide, "", api.ErrType, 1})
}

func TestP8NodesMissing(t *testing.T) {
	const source = "typedef int a; typedef opaque o<4>; typedef a L<2>; struct S { int x; L y; o z; a *p; U u; }; union U switch (int k) { case 1: void; case 2: S *s; };"
	checkEncode(t, source, bad("a", 0), bad("o", 0), bad("L", 0), bad("S", 0), bad("U", 0))
	v := value(list(5), num(1), list(2), num(2), num(3), text("abc"), arm(1, 1), num(4), arm(2, 1), arm(1, 1), list(5), num(1), list(0), text(""), arm(0, 0), arm(1, 0))
	for n := range v {
		checkEncode(t, source, bad("S", n, v[:n]...))
	}
	checkEncode(t, source, right("S", words32(1, 2, 2, 3, 3)+"abc\x00"+words32(1, 4, 2, 1, 1, 0, 0, 0, 1), v...))
}

func TestP8WhatAKindDoesNotNameSaysNothing(t *testing.T) {
	const source = "typedef int i; typedef opaque o<4>; typedef opaque f[2]; typedef int L<2>; struct S { int x; }; typedef int *O; union U switch (int k) { case 5: void; case 6: int x; };"
	full := func(n api.Node) api.Node {
		if n.Kind == api.KNum || n.Kind == api.KText {
			n.Len = -7
		}
		if n.Kind == api.KText || n.Kind == api.KList {
			n.N = math.MinInt64
		}
		if n.Kind != api.KText {
			n.S = "some longer text"
		}
		n.At = -99
		return n
	}
	for _, c := range []encoded{
		right("i", words32(5), num(5)), right("o", words32(3)+"abc\x00", text("abc")), right("f", "ab\x00\x00", text("ab")), right("L", words32(1, 9), list(1), num(9)),
		right("S", words32(9), list(1), num(9)), right("O", words32(0), arm(0, 0)), right("O", words32(1, 9), arm(1, 1), num(9)), right("U", words32(5), arm(5, 0)), right("U", words32(6, 9), arm(6, 1), num(9)),
	} {
		checkEncode(t, source, c)
		for i := range c.v {
			c.v[i] = full(c.v[i])
		}
		checkEncode(t, source, c)
	}
}

func TestP8OtherKindsOfNodes(t *testing.T) {
	const source = "typedef int i; typedef hyper h; typedef bool b; enum E { A = 0 }; typedef opaque o<4>; typedef opaque f[2]; typedef string s<4>; typedef int L<2>; typedef int M[1]; struct S { int x; }; typedef int *O; union U switch (int k) { case 0: void; case 1: int x; };"
	kinds := map[string]int{"i": api.KNum, "h": api.KNum, "b": api.KNum, "E": api.KNum, "o": api.KText, "f": api.KText, "s": api.KText, "L": api.KList, "M": api.KList, "S": api.KList, "O": api.KArm, "U": api.KArm}
	for name, kind := range kinds {
		for _, other := range []int{0, 1, 2, 3, 4, 5, -1, math.MaxInt, math.MinInt, 1<<32 + kind, -kind} {
			if other == kind {
				continue
			}
			for _, n := range []api.Node{{}, {N: 1, Len: 1, S: "ab"}, {S: "ab"}} {
				n.Kind = other
				checkEncode(t, source, bad(name, 0, n, num(0)), bad(name, 0, n))
			}
		}
	}
}
