package marshal_test

import (
	"math"
	"strings"
	"testing"

	"marshal/api"
)

func TestP9NamesOfTypesAlone(t *testing.T) {
	const source = "const K = 1; enum E { A = 0 }; typedef int T; struct S { int m; }; union U switch (int n) { case 1: int a; }; program P { version V { T f(T) = 1; } = 1; } = 1;"
	checkDecode(t, source,
		gives("E", words32(0), num(0)), gives("T", words32(0), num(0)), gives("S", words32(0), list(1), num(0)), gives("U", words32(1, 0), arm(1, 1), num(0)))
	for _, name := range []string{"", "K", "A", "m", "n", "a", "P", "V", "f", "X", "e", "E ", " E", "E\x00", "int", "void", "T;", "abcdefghijklmnopq", "\xff"} {
		for _, lim := range []api.Limits{wide, limits(0, 0, 0), limits(-1, -1, -1), limits(65, 10001, 100001)} {
			checkDecode(t, source, decoded{name, words32(0), lim, nil, api.ErrNone, -1}, decoded{name, "", lim, nil, api.ErrNone, -1})
		}
	}
	checkDecode(t, "", decoded{"E", words32(0), wide, nil, api.ErrNone, -1})
}

func TestP9Limits(t *testing.T) {
	const source = "typedef int T;"
	for _, n := range []int{-1, math.MinInt, math.MaxInt} {
		for _, lim := range []api.Limits{limits(n, 1, 4), limits(1, n, 4), limits(1, 1, n), limits(n, n, n)} {
			checkDecode(t, source, decoded{"T", words32(0), lim, nil, api.ErrLimits, -1})
		}
	}
	for _, lim := range []api.Limits{limits(65, 10000, 100000), limits(64, 10001, 100000), limits(64, 10000, 100001), limits(65, 0, 0), limits(0, 10001, 0), limits(0, 0, 100001)} {
		checkDecode(t, source, decoded{"T", words32(0), lim, nil, api.ErrLimits, -1}, decoded{"T", "", lim, nil, api.ErrLimits, -1}, decoded{"T", strings.Repeat("x", 100001), lim, nil, api.ErrLimits, -1})
	}
	for _, lim := range []api.Limits{wide, limits(1, 1, 4), limits(64, 1, 4), limits(1, 10000, 4), limits(1, 1, 100000)} {
		checkDecode(t, source, decoded{"T", words32(7), lim, value(num(7)), api.OK, 0})
	}
}

// Size is asked for ahead of all that the bytes say.
func TestP9Size(t *testing.T) {
	const source = "typedef int T; enum E { A = 0 }; typedef opaque O<>; typedef O L<>;"
	for _, name := range []string{"T", "E", "O", "L"} {
		for _, b := range []string{words32(0), words32(9), "x", words32(0, 0), words32(-1) + "y"} {
			for _, lim := range []api.Limits{limits(64, 99, len(b)-1), limits(0, 0, len(b)-1), limits(0, 0, 0), limits(1, 0, len(b)/2)} {
				checkDecode(t, source, decoded{name, b, lim, nil, api.ErrSize, 0})
			}
		}
	}
	checkDecode(t, source,
		decoded{"T", "", limits(1, 1, 0), nil, api.ErrShort, 0}, decoded{"T", words32(7), limits(1, 1, 4), value(num(7)), api.OK, 0}, decoded{"T", words32(7), limits(1, 1, 5), value(num(7)), api.OK, 0},
		decoded{"T", words32(7) + "x", limits(1, 1, 4), nil, api.ErrSize, 0}, decoded{"T", words32(7) + "x", limits(1, 1, 5), nil, api.ErrTail, 4})
	long := strings.Repeat("\x00", 99996)
	checkDecode(t, source,
		gives("O", words32(99996)+long, textAt(long, 4)), gives("O", words32(99995)+long, textAt(long[1:], 4)),
		gives("L", words32(2, 99988)+long[8:]+words32(0), list(2), textAt(long[8:], 8), textAt("", 100000)),
		fails("O", words32(99997)+long+words32(0), api.ErrSize, 0), fails("O", words32(99996)+long+"x", api.ErrSize, 0), fails("T", strings.Repeat("x", 5000000), api.ErrSize, 0),
		decoded{"O", words32(99996) + long, limits(64, 99, 99999), nil, api.ErrSize, 0})
}

// checkBytesDepth asks for a value by just as much Depth as it needs, and by one less.
func checkBytesDepth(t *testing.T, source, name string, need, at int, b string, v ...api.Node) {
	t.Helper()
	checkDecode(t, source,
		decoded{name, b, limits(need, 10000, 100000), v, api.OK, 0},
		decoded{name, b, limits(need-1, 10000, 100000), nil, api.ErrDepth, at})
}

func TestP9Depth(t *testing.T) {
	checkBytesDepth(t, "typedef int a;", "a", 1, 0, words32(5), num(5))
	const source = "enum E { X = 1, Y = 2 }; typedef int a; typedef a b; typedef b c; struct S { int x; c c; a y; }; typedef S L<3>; typedef S M[1]; typedef S *O; union U switch (E k) { case 1: int x; case 2: c c; };"
	checkBytesDepth(t, source, "b", 2, 0, words32(5), num(5))
	checkBytesDepth(t, source, "c", 3, 0, words32(5), num(5))
	s := value(list(3), num(1), num(2), num(3))
	checkBytesDepth(t, source, "S", 4, 4, words32(1, 2, 3), s...)
	checkBytesDepth(t, source, "L", 5, 8, words32(1, 1, 2, 3), join(value(list(1)), s)...)
	checkBytesDepth(t, source, "L", 5, 8, words32(2, 1, 2, 3, 1, 2, 3), join(value(list(2)), s, s)...)
	checkBytesDepth(t, source, "L", 1, 0, words32(0), list(0))
	checkBytesDepth(t, source, "M", 5, 4, words32(1, 2, 3), join(value(list(1)), s)...)
	checkBytesDepth(t, source, "O", 5, 8, words32(1, 1, 2, 3), join(value(arm(1, 1)), s)...)
	checkBytesDepth(t, source, "O", 1, 0, words32(0), arm(0, 0))
	checkBytesDepth(t, source, "U", 1, 0, words32(1, 5), arm(1, 1), num(5))
	checkBytesDepth(t, source, "U", 4, 4, words32(2, 5), arm(2, 1), num(5))
}

func TestP9DepthCountsWhatEncloses(t *testing.T) {
	const source = "typedef int a; struct S { a p; a q; a r[2]; a *s; a t<2>; }; struct T { S one; S two; a three; };"
	s := value(list(5), num(1), num(2), list(2), num(3), num(4), arm(1, 1), num(5), list(1), num(6))
	b := words32(1, 2, 3, 4, 1, 5, 1, 6)
	checkBytesDepth(t, source, "S", 2, 0, b, s...)
	checkBytesDepth(t, source, "T", 3, 0, b+b+words32(9), join(value(list(3)), s, s, value(num(9)))...)
	checkDecode(t, "struct A { B b; C c; }; struct B { int x; }; typedef B C;",
		decoded{"A", words32(1, 2), limits(2, 9, 99), nil, api.ErrDepth, 4},
		decoded{"A", words32(1, 2), limits(3, 9, 99), value(list(2), list(1), num(1), list(1), num(2)), api.OK, 0})
}

func TestP9DepthOf64(t *testing.T) {
	const source = "struct T { T *next; }; typedef L L2; typedef L L3<1>; typedef L2 L4[1]; struct L { L l<1>; };"
	var arms, lists []api.Node
	for range 63 {
		arms = append(arms, list(1), arm(1, 1))
		lists = append(lists, list(1), list(1))
	}
	b := strings.Repeat(words32(1), 63)
	checkDecode(t, source,
		gives("T", b+words32(0), join(arms, value(list(1), arm(0, 0)))...),
		fails("T", b+words32(1, 0), api.ErrDepth, 256), fails("T", b+words32(1), api.ErrDepth, 256), fails("T", b, api.ErrShort, 252),
		decoded{"T", b + words32(0), limits(63, 10000, 100000), nil, api.ErrDepth, 252},
		gives("L", b+words32(0), join(lists, value(list(1), list(0)))...),
		fails("L", b+words32(1, 0), api.ErrDepth, 256), fails("L2", b+words32(0), api.ErrDepth, 252), fails("L3", words32(1)+b+words32(0), api.ErrDepth, 256), fails("L4", b+words32(0), api.ErrDepth, 248))
}

func TestP9Fuel(t *testing.T) {
	const source = "typedef int a; typedef int L<>; struct S { int x; a y; opaque z<9>; int *o; }; typedef L M<>; typedef a F[2];"
	v := value(list(4), num(1), num(2), textAt("abc", 12), arm(1, 1), num(3))
	b := words32(1, 2, 3) + "abc\x00" + words32(1, 3)
	for fuel, at := range []int{0, 0, 4, 8, 16, 20} {
		checkDecode(t, source, decoded{"S", b, limits(64, fuel, 100000), nil, api.ErrFuel, at})
	}
	checkDecode(t, source, decoded{"S", b, limits(64, 6, 100000), v, api.OK, 0}, decoded{"S", b, limits(64, 7, 100000), v, api.OK, 0},
		decoded{"a", words32(1), limits(1, 0, 4), nil, api.ErrFuel, 0}, decoded{"a", words32(1), limits(1, 1, 4), value(num(1)), api.OK, 0},
		decoded{"L", words32(0), limits(1, 1, 4), value(list(0)), api.OK, 0}, decoded{"L", words32(-1), limits(1, 1, 4), nil, api.ErrFuel, 4},
		decoded{"F", words32(1, 2), limits(2, 0, 8), nil, api.ErrFuel, 0}, decoded{"F", words32(1, 2), limits(2, 1, 8), nil, api.ErrFuel, 0}, decoded{"F", words32(1, 2), limits(2, 2, 8), nil, api.ErrFuel, 4}, decoded{"F", words32(1, 2), limits(2, 3, 8), value(list(2), num(1), num(2)), api.OK, 0},
		decoded{"a", words32(1, 2), limits(1, 1, 8), nil, api.ErrTail, 4})
	most, out := repeat(9999, num(7)), strings.Repeat(words32(7), 9999)
	checkDecode(t, source,
		gives("L", words32(9999)+out, join(value(list(9999)), most)...),
		fails("L", words32(10000)+out+words32(7), api.ErrFuel, 40000), fails("L", words32(10000)+out, api.ErrFuel, 40000), fails("L", words32(-1)+out, api.ErrFuel, 40000), fails("L", words32(9999)+out+words32(7), api.ErrTail, 40000),
		decoded{"L", words32(9999) + out, limits(1, 9999, 100000), nil, api.ErrFuel, 39996},
		fails("M", words32(2, 9998)+out, api.ErrFuel, 40000))
}

func TestP9TheOrderAtAValue(t *testing.T) {
	const source = "typedef bool a; typedef a b; struct S { int x; a y; }; typedef opaque o<4>; struct Q { int x; o y; }; typedef hyper h; struct R { int x; h y; }; struct T { int x; U y; }; union U switch (bool k) { case TRUE: void; };"
	for _, name := range []string{"S", "Q", "R", "T"} {
		for _, b := range []string{words32(1, 1), words32(1, 9), words32(1), words32(1) + "\x00", words32(1, 1, 1, 1)} {
			checkDecode(t, source,
				decoded{name, b, limits(0, 0, 3), nil, api.ErrSize, 0}, decoded{name, b, limits(0, 0, 99), nil, api.ErrDepth, 0}, decoded{name, b, limits(1, 0, 99), nil, api.ErrFuel, 0}, decoded{name, b, limits(1, 1, 99), nil, api.ErrFuel, 0},
				decoded{name, b, limits(1, 2, 99), nil, api.ErrDepth, 4}, decoded{name, b, limits(1, 3, 99), nil, api.ErrDepth, 4}, decoded{name, b, limits(2, 2, 99), nil, api.ErrFuel, 4})
		}
	}
	checkDecode(t, source,
		fails("S", words32(1), api.ErrShort, 4), fails("S", words32(1)+"\xff\xff\xff", api.ErrShort, 4), fails("S", words32(1, 9), api.ErrWrong, 4), fails("S", words32(1, 9, 9), api.ErrWrong, 4), fails("S", words32(1, 1, 9), api.ErrTail, 8),
		fails("Q", words32(1)+"\xff\xff\xff", api.ErrShort, 4), fails("Q", words32(1, 5), api.ErrCount, 4), fails("Q", words32(1, 5)+"abcdefgh", api.ErrCount, 4), fails("Q", words32(1, 3)+"abc", api.ErrShort, 8), fails("Q", words32(1, 3)+"abcd", api.ErrPad, 11), fails("Q", words32(1, 2)+"a", api.ErrShort, 8), fails("Q", words32(1, 2)+"abc", api.ErrShort, 8), fails("Q", words32(1, 3)+"abcde", api.ErrPad, 11), fails("Q", words32(1, 3)+"abc\x00e", api.ErrTail, 12),
		fails("R", words32(1, 1), api.ErrShort, 4), fails("R", words32(1, 1)+"\x00\x00\x00", api.ErrShort, 4), fails("R", words32(1, 1, 1)+"\x00", api.ErrTail, 12),
		fails("T", words32(1)+"\x01", api.ErrShort, 4), fails("T", words32(1, 0), api.ErrWrong, 4), fails("T", words32(1, 2), api.ErrWrong, 4), fails("T", words32(1, 1)+"\x00", api.ErrTail, 8),
		decoded{"b", "", limits(0, 0, 0), nil, api.ErrDepth, 0}, decoded{"b", "", limits(1, 0, 0), nil, api.ErrDepth, 0}, decoded{"b", "", limits(2, 0, 0), nil, api.ErrFuel, 0}, decoded{"b", "", limits(2, 1, 0), nil, api.ErrShort, 0})
}

func TestP9TheFirstFaultCounts(t *testing.T) {
	const source = "enum E { A = 1 }; typedef opaque o<4>; struct S { o x; E y; o z; }; typedef S L<2>;"
	checkDecode(t, source,
		fails("S", words32(3)+"abcd"+words32(2, 5), api.ErrPad, 7), fails("S", words32(3)+"abc\x00"+words32(2, 5), api.ErrWrong, 8), fails("S", words32(3)+"abc\x00"+words32(1, 5), api.ErrCount, 12), fails("S", words32(3)+"abc\x00"+words32(1, 4), api.ErrShort, 16), fails("S", words32(5)+"abcd"+words32(2, 5), api.ErrCount, 0),
		fails("L", words32(3, 5), api.ErrCount, 0), fails("L", words32(2, 5), api.ErrCount, 4), fails("L", words32(2, 0, 1, 0, 0, 2), api.ErrWrong, 20), fails("L", words32(1, 0, 1, 0, 0, 2), api.ErrTail, 16),
		decoded{"L", words32(2, 0, 1, 0, 0, 2), limits(3, 5, 99), nil, api.ErrFuel, 16}, decoded{"L", words32(2, 0, 1, 0, 0, 2), limits(3, 6, 99), nil, api.ErrFuel, 16}, decoded{"L", words32(2, 0, 1, 0, 0, 2), limits(3, 7, 99), nil, api.ErrFuel, 20}, decoded{"L", words32(2, 0, 1, 0, 0, 2), limits(3, 8, 99), nil, api.ErrWrong, 20})
}

// All that is too short is told at the first byte of the part that is not wholly there.
func TestP9BytesMissing(t *testing.T) {
	const source = "typedef opaque o<4>; typedef int L<2>; struct S { int x; L y; o z; hyper h; int *p; U u; opaque f[5]; }; union U switch (int k) { case 1: void; case 2: S *s; };"
	b := words32(1, 2, 2, 3, 3) + "abc\x00" + words32(7, 8, 1, 4, 2, 0) + "abcde\x00\x00\x00"
	parts := []int{0, 4, 8, 12, 16, 20, 24, 32, 36, 40, 44, 48, 56}
	v := value(list(7), num(1), list(2), num(2), num(3), textAt("abc", 20), num(7<<32+8), arm(1, 1), num(4), arm(2, 1), arm(0, 0), textAt("abcde", 48))
	checkDecode(t, source, gives("S", b, v...))
	for n := range b {
		at := 0
		for parts[at+1] <= n {
			at++
		}
		checkDecode(t, source, fails("S", b[:n], api.ErrShort, parts[at]))
	}
}

func TestP9BytesBehindTheValue(t *testing.T) {
	const source = "typedef int a; typedef opaque o<4>; typedef a L<2>; typedef a *O; union U switch (int k) { case 1: void; case 2: int x; };"
	for _, c := range []decoded{
		gives("a", words32(1), num(1)), gives("o", words32(1)+"a\x00\x00\x00", textAt("a", 4)), gives("o", words32(0), textAt("", 4)), gives("L", words32(0), list(0)), gives("L", words32(2, 1, 2), list(2), num(1), num(2)),
		gives("O", words32(0), arm(0, 0)), gives("O", words32(1, 2), arm(1, 1), num(2)), gives("U", words32(1), arm(1, 0)), gives("U", words32(2, 3), arm(2, 1), num(3)),
	} {
		checkDecode(t, source, c)
		for _, more := range []string{"\x00", "\x00\x00\x00\x00", "x", words32(1, 2, 3)} {
			checkDecode(t, source, fails(c.name, c.b+more, api.ErrTail, len(c.b)))
		}
	}
}
