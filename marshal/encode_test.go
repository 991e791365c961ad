package marshal_test

import (
	"math"
	"strings"
	"testing"

	"marshal/api"
	"marshal/marshal"
	"marshal/plain"
)

// The nodes, as short as they can be written.
func num(n int64) api.Node             { return api.Node{Kind: api.KNum, N: n} }
func text(s string) api.Node           { return api.Node{Kind: api.KText, S: s} }
func list(n int) api.Node              { return api.Node{Kind: api.KList, Len: n} }
func arm(n int64, values int) api.Node { return api.Node{Kind: api.KArm, N: n, Len: values} }
func value(v ...api.Node) []api.Node   { return v }

// repeat gives a node so many times.
func repeat(n int, v api.Node) []api.Node {
	var out []api.Node
	for range n {
		out = append(out, v)
	}
	return out
}

// join lays values one behind the other.
func join(values ...[]api.Node) []api.Node {
	var out []api.Node
	for _, v := range values {
		out = append(out, v...)
	}
	return out
}

// wide is as much as may be asked for.
var wide = api.Limits{Depth: api.MaxDepth, Fuel: api.MaxFuel, Size: api.MaxSize}

func limits(depth, fuel, size int) api.Limits {
	return api.Limits{Depth: depth, Fuel: fuel, Size: size}
}

// words32 gives the bytes of words of 32 bits.
func words32(words ...int64) string {
	var b strings.Builder
	for _, w := range words {
		for _, shift := range []int{24, 16, 8, 0} {
			b.WriteByte(byte(w >> shift))
		}
	}
	return b.String()
}

func mustRead(t *testing.T, source string) *marshal.Spec {
	t.Helper()
	s, err := marshal.Read(source)
	if err != nil {
		t.Fatalf("Read(%q): %v", source, err)
	}
	return s
}

// encoded is a value and what Encode answers to it: bytes, or an error and its place (-1: it has none).
type encoded struct {
	name string
	v    []api.Node
	lim  api.Limits
	b    string
	want api.Errno
	at   int
}

func right(name string, b string, v ...api.Node) encoded {
	return encoded{name: name, v: v, lim: wide, b: b}
}

func bad(name string, at int, v ...api.Node) encoded {
	return encoded{name: name, v: v, lim: wide, want: api.ErrType, at: at}
}

func checkEncode(t *testing.T, source string, cases ...encoded) {
	t.Helper()
	s := mustRead(t, source)
	for _, c := range cases {
		b, err := s.Encode(c.name, c.v, c.lim)
		if e, at := plain.Told(err); b != c.b || e != c.want || at != c.at {
			t.Errorf("%s: Encode(%q, %v (of %d), %v) = %.99q, %v at %d, want %.99q, %v at %d", source, c.name, c.v[:min(20, len(c.v))], len(c.v), c.lim, b, e, at, c.b, c.want, c.at)
		}
	}
}

const example = "enum E { A = 0, B = -3 }; struct P { E e; string s<5>; }; typedef P L<2>;"

func TestExamplesOfEncode(t *testing.T) {
	p := value(list(2), num(0), text("abc"))
	checkEncode(t, example,
		encoded{"E", value(num(-3)), wide, "\xff\xff\xff\xfd", api.OK, 0},
		encoded{"E", value(num(1)), wide, "", api.ErrType, 0},
		encoded{"P", p, wide, "\x00\x00\x00\x00\x00\x00\x00\x03abc\x00", api.OK, 0},
		encoded{"P", p, limits(1, 10000, 100000), "", api.ErrDepth, 1},
		encoded{"P", p, limits(64, 2, 100000), "", api.ErrFuel, 2},
		encoded{"P", p, limits(64, 10000, 7), "", api.ErrSize, 2},
		encoded{"L", value(list(3)), wide, "", api.ErrType, 0},
	)
}

func TestP8Numbers(t *testing.T) {
	checkEncode(t, "typedef int i; typedef unsigned u; typedef unsigned int v; typedef hyper h; typedef unsigned hyper w; typedef bool b; enum e { A = -2147483648, B = 2147483647, C = 5 };",
		right("i", words32(0), num(0)), right("i", words32(-1), num(-1)), right("i", "\x01\x02\x03\x04", num(0x01020304)),
		right("i", "\x80\x00\x00\x00", num(math.MinInt32)), right("i", "\x7f\xff\xff\xff", num(math.MaxInt32)),
		bad("i", 0, num(math.MinInt32-1)), bad("i", 0, num(math.MaxInt32+1)), bad("i", 0, num(math.MaxInt64)), bad("i", 0, num(math.MinInt64)), bad("i", 0, num(1<<32)),
		right("u", words32(0), num(0)), right("u", "\xff\xff\xff\xff", num(math.MaxUint32)), right("u", "\x80\x00\x00\x00", num(1<<31)),
		bad("u", 0, num(-1)), bad("u", 0, num(math.MaxUint32+1)), bad("u", 0, num(math.MaxInt64)), bad("u", 0, num(math.MinInt64)),
		right("v", "\xff\xff\xff\xff", num(math.MaxUint32)), bad("v", 0, num(-1)),
		right("h", words32(0, 0), num(0)), right("h", words32(-1, -1), num(-1)), right("h", "\x01\x02\x03\x04\x05\x06\x07\x08", num(0x0102030405060708)),
		right("h", "\x80\x00\x00\x00\x00\x00\x00\x00", num(math.MinInt64)), right("h", "\x7f\xff\xff\xff\xff\xff\xff\xff", num(math.MaxInt64)),
		right("w", words32(0, 7), num(7)), right("w", words32(-1, -1), num(-1)), right("w", "\x80\x00\x00\x00\x00\x00\x00\x00", num(math.MinInt64)), right("w", "\x7f\xff\xff\xff\xff\xff\xff\xff", num(math.MaxInt64)),
		right("b", words32(0), num(0)), right("b", words32(1), num(1)), bad("b", 0, num(2)), bad("b", 0, num(-1)), bad("b", 0, num(1<<32)), bad("b", 0, num(1<<32+1)),
		right("e", "\x80\x00\x00\x00", num(math.MinInt32)), right("e", "\x7f\xff\xff\xff", num(math.MaxInt32)), right("e", words32(5), num(5)),
		bad("e", 0, num(0)), bad("e", 0, num(4)), bad("e", 0, num(6)), bad("e", 0, num(1<<32+5)), bad("e", 0, num(math.MaxUint32)), bad("e", 0, num(1<<31)),
	)
	checkEncode(t, "enum e { A = 3 };", right("e", words32(3), num(3)), bad("e", 0, num(0)))
}

func TestP8Texts(t *testing.T) {
	const source = "typedef opaque f[3]; typedef opaque g[4]; typedef opaque o<3>; typedef string s<5>; typedef opaque z<0>; typedef string y<0>; typedef opaque x<>; typedef string r<>; typedef opaque k[1000]; typedef opaque l<1000>; typedef opaque m[1];"
	checkEncode(t, source,
		right("f", "abc\x00", text("abc")), right("f", "\x00\xff\x80\x00", text("\x00\xff\x80")), bad("f", 0, text("ab")), bad("f", 0, text("abcd")), bad("f", 0, text("")),
		right("g", "abcd", text("abcd")), bad("g", 0, text("abc")), bad("g", 0, text("abcde")),
		right("m", "a\x00\x00\x00", text("a")), bad("m", 0, text("")), bad("m", 0, text("ab")),
		right("o", words32(0), text("")), right("o", words32(1)+"a\x00\x00\x00", text("a")), right("o", words32(2)+"ab\x00\x00", text("ab")), right("o", words32(3)+"abc\x00", text("abc")), bad("o", 0, text("abcd")),
		right("s", words32(0), text("")), right("s", words32(4)+"abcd", text("abcd")), right("s", words32(5)+"abcde\x00\x00\x00", text("abcde")), bad("s", 0, text("abcdef")),
		right("s", words32(2)+"\u00e4\x00\x00", text("\u00e4")), bad("s", 0, text("\u00e4\u00e4\u00e4")), right("s", words32(2)+"\xff\xfe\x00\x00", text("\xff\xfe")),
		right("z", words32(0), text("")), bad("z", 0, text("a")), right("y", words32(0), text("")), bad("y", 0, text("a")),
		right("k", strings.Repeat("x", 1000), text(strings.Repeat("x", 1000))), bad("k", 0, text(strings.Repeat("x", 999))), bad("k", 0, text(strings.Repeat("x", 1001))),
		right("l", words32(1000)+strings.Repeat("x", 1000), text(strings.Repeat("x", 1000))), bad("l", 0, text(strings.Repeat("x", 1001))),
	)
	long := strings.Repeat("x", 99996)
	checkEncode(t, source,
		right("x", words32(99996)+long, text(long)), right("r", words32(99995)+long[1:]+"\x00", text(long[1:])),
		encoded{"x", value(text(long + "x")), wide, "", api.ErrSize, 0}, encoded{"r", value(text(strings.Repeat("x", 5000000))), wide, "", api.ErrSize, 0},
	)
}

func TestP8Lists(t *testing.T) {
	checkEncode(t, "typedef int f[3]; typedef int a<3>; typedef int z<0>; typedef int u<>; typedef f g[2]; typedef a b<2>; typedef int *o; typedef o p[2]; typedef int h[1000]; typedef int one[1]; struct S { int a; hyper b; opaque c<2>; };",
		right("f", words32(1, 2, 3), list(3), num(1), num(2), num(3)), bad("f", 0, list(2), num(1), num(2)), bad("f", 0, list(4), num(1), num(2), num(3), num(4)), bad("f", 0, list(0)), bad("f", 0, list(-3)),
		right("one", words32(9), list(1), num(9)), bad("one", 0, list(0)), bad("one", 0, list(2), num(1), num(2)),
		right("a", words32(0), list(0)), right("a", words32(1, 7), list(1), num(7)), right("a", words32(3, 7, 8, 9), list(3), num(7), num(8), num(9)), bad("a", 0, list(4), num(7), num(8), num(9), num(1)), bad("a", 0, list(-1)), bad("a", 0, list(math.MinInt)), bad("a", 0, list(math.MaxInt)),
		right("z", words32(0), list(0)), bad("z", 0, list(1), num(0)), bad("z", 0, list(-1)),
		right("u", words32(0), list(0)), right("u", words32(4, 1, 2, 3, 4), list(4), num(1), num(2), num(3), num(4)),
		bad("u", 1, list(math.MaxUint32)), bad("u", 0, list(math.MaxUint32+1)), bad("u", 0, list(math.MaxInt)), bad("u", 0, list(-1)), bad("u", 0, list(math.MinInt)),
		right("g", words32(1, 2, 3, 4, 5, 6), list(2), list(3), num(1), num(2), num(3), list(3), num(4), num(5), num(6)), bad("g", 5, list(2), list(3), num(1), num(2), num(3), num(4), num(5)), bad("g", 1, list(2), list(2)),
		right("b", words32(2, 0, 2, 5, 6), list(2), list(0), list(2), num(5), num(6)), right("b", words32(2, 1, 5, 0), list(2), list(1), num(5), list(0)), right("b", words32(0), list(0)), bad("b", 2, list(2), list(0), list(4)),
		right("p", words32(0, 1, 5), list(2), arm(0, 0), arm(1, 1), num(5)), right("p", words32(1, 5, 0), list(2), arm(1, 1), num(5), arm(0, 0)),
		right("S", words32(1, 2, 3, 2)+"ab\x00\x00", list(3), num(1), num(2<<32+3), text("ab")), bad("S", 0, list(2), num(1), num(2)), bad("S", 0, list(4), num(1), num(2), text(""), num(3)), bad("S", 0, list(0)), bad("S", 0, list(-3)), bad("S", 3, list(3), num(1), num(2), text("abc")),
	)
	checkEncode(t, "typedef int h[1000];",
		right("h", strings.Repeat(words32(7), 1000), join(value(list(1000)), repeat(1000, num(7)))...),
		bad("h", 0, join(value(list(999)), repeat(999, num(7)))...), bad("h", 0, join(value(list(1001)), repeat(1001, num(7)))...),
		bad("h", 1000, join(value(list(1000)), repeat(999, num(7)))...), bad("h", 1001, join(value(list(1000)), repeat(1001, num(7)))...),
	)
}

func TestP8WhatMayBeMissing(t *testing.T) {
	checkEncode(t, "typedef int *o; struct T { int n; T *next; };",
		right("o", words32(0), arm(0, 0)), right("o", words32(1, 7), arm(1, 1), num(7)),
		bad("o", 0, arm(0, 1), num(7)), bad("o", 0, arm(1, 0)), bad("o", 0, arm(2, 1), num(7)), bad("o", 0, arm(2, 2), num(7), num(7)), bad("o", 0, arm(-1, -1)), bad("o", 0, arm(-1, 1), num(7)), bad("o", 0, arm(1, 2), num(7), num(7)), bad("o", 0, arm(0, -1)), bad("o", 0, arm(1<<32, 0)), bad("o", 0, arm(1<<32+1, 1), num(7)),
		bad("o", 1, arm(1, 1)), bad("o", 1, arm(0, 0), num(7)), bad("o", 2, arm(1, 1), num(7), num(7)), bad("o", 0, num(0)), bad("o", 0, num(7)), bad("o", 0, list(0)), bad("o", 0, list(1), num(7)),
		right("T", words32(1, 1, 2, 1, 3, 0), list(2), num(1), arm(1, 1), list(2), num(2), arm(1, 1), list(2), num(3), arm(0, 0)),
	)
}

func TestP8Unions(t *testing.T) {
	checkEncode(t, "enum E { A = 0, B = -3, C = 7 }; union U switch (E k) { case A: int a; case B: void; }; union D switch (E k) { case A: int a; default: hyper h; }; union V switch (E k) { case A: case C: string s<3>; default: void; };",
		right("U", words32(0, 5), arm(0, 1), num(5)), right("U", words32(-3), arm(-3, 0)),
		bad("U", 0, arm(7, 0)), bad("U", 0, arm(7, 1), num(5)), bad("U", 0, arm(1, 0)), bad("U", 0, arm(0, 0)), bad("U", 0, arm(-3, 1), num(5)), bad("U", 0, arm(0, 2), num(5), num(5)), bad("U", 0, arm(-3, -1)), bad("U", 0, arm(1<<32, 1), num(5)), bad("U", 0, arm(1<<32-3, 0)),
		bad("U", 1, arm(0, 1)), bad("U", 1, arm(0, 1), text("")), bad("U", 1, arm(-3, 0), num(5)), bad("U", 0, num(-3)), bad("U", 0, list(1), num(5)),
		right("D", words32(0, 5), arm(0, 1), num(5)), right("D", words32(-3, 0, 9), arm(-3, 1), num(9)), right("D", words32(7, -1, -1), arm(7, 1), num(-1)), bad("D", 0, arm(7, 0)), bad("D", 0, arm(1, 1), num(9)), bad("D", 0, arm(6, 1), num(9)),
		right("V", words32(0, 1)+"a\x00\x00\x00", arm(0, 1), text("a")), right("V", words32(7, 0), arm(7, 1), text("")), right("V", words32(-3), arm(-3, 0)), bad("V", 0, arm(5, 0)), bad("V", 0, arm(7, 0)),
	)
	checkEncode(t, "union I switch (int k) { case -1: int *a; default: void; }; union N switch (unsigned k) { case 4294967295: int a<2>; default: opaque b[2]; }; union B switch (bool k) { case TRUE: void; case FALSE: I i; }; union O switch (bool k) { case TRUE: unsigned int k2[2]; }; union P switch (bool k) { case TRUE: int a; default: void; };",
		right("I", words32(-1, 1, 4), arm(-1, 1), arm(1, 1), num(4)), right("I", words32(math.MaxInt32), arm(math.MaxInt32, 0)), right("I", "\x80\x00\x00\x00", arm(math.MinInt32, 0)),
		bad("I", 0, arm(math.MaxInt32+1, 0)), bad("I", 0, arm(math.MinInt32-1, 0)), bad("I", 0, arm(math.MaxUint32, 1), arm(0, 0)), bad("I", 0, arm(math.MaxInt64, 0)), bad("I", 1, arm(-1, 1), arm(1, 0)),
		right("N", words32(-1, 2, 4, 5), arm(math.MaxUint32, 1), list(2), num(4), num(5)), right("N", words32(0)+"ab\x00\x00", arm(0, 1), text("ab")), right("N", words32(1<<31)+"ab\x00\x00", arm(1<<31, 1), text("ab")),
		bad("N", 0, arm(-1, 1), text("ab")), bad("N", 0, arm(math.MaxUint32+1, 1), text("ab")), bad("N", 0, arm(math.MinInt64, 1), text("ab")), bad("N", 1, arm(math.MaxUint32, 1), list(3)),
		right("B", words32(1), arm(1, 0)), right("B", words32(0, 9), arm(0, 1), arm(9, 0)), bad("B", 0, arm(2, 0)), bad("B", 0, arm(-1, 0)), bad("B", 0, arm(0, 0)), bad("B", 0, arm(1, 1), arm(9, 0)),
		right("O", words32(1, 4, 5), arm(1, 1), list(2), num(4), num(5)), bad("O", 0, arm(0, 0)), bad("O", 0, arm(0, 1), list(2)),
		right("P", words32(0), arm(0, 0)), right("P", words32(1, 6), arm(1, 1), num(6)), bad("P", 0, arm(2, 0)), bad("P", 0, arm(-1, 0)),
	)
}

func TestP8NamesOfNames(t *testing.T) {
	checkEncode(t, "typedef c d; typedef b c; typedef a b; typedef int a; struct S { d x; T t; }; typedef S T1; struct T { U *u; }; union U switch (int k) { case 1: a a; case 2: E e; default: R r[2]; }; enum E { X = 3 }; typedef R1 R; typedef opaque R1[2];",
		right("d", words32(5), num(5)), right("T1", words32(5, 0), list(2), num(5), list(1), arm(0, 0)),
		right("T1", words32(5, 1, 1, 6), list(2), num(5), list(1), arm(1, 1), arm(1, 1), num(6)),
		right("S", words32(5, 1, 2, 3), list(2), num(5), list(1), arm(1, 1), arm(2, 1), num(3)),
		right("S", words32(5, 1, -9)+"ab\x00\x00cd\x00\x00", list(2), num(5), list(1), arm(1, 1), arm(-9, 1), list(2), text("ab"), text("cd")),
		bad("S", 5, list(2), num(5), list(1), arm(1, 1), arm(2, 1), num(4)),
	)
}
