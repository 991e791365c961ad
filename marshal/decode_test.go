package marshal_test

import (
	"math"
	"slices"
	"strings"
	"testing"

	"marshal/api"
	"marshal/plain"
)

// textAt is a text as Decode gives it: with the place of its first byte.
func textAt(s string, at int) api.Node { return api.Node{Kind: api.KText, S: s, At: at} }

// decoded are bytes and what Decode answers to them: a value, or an error and its place (-1: it has none).
type decoded struct {
	name string
	b    string
	lim  api.Limits
	v    []api.Node
	want api.Errno
	at   int
}

func gives(name string, b string, v ...api.Node) decoded {
	return decoded{name: name, b: b, lim: wide, v: v}
}

func fails(name string, b string, want api.Errno, at int) decoded {
	return decoded{name: name, b: b, lim: wide, want: want, at: at}
}

// checkDecode holds Decode against what it should answer; its value must be encoded to the same bytes again, and Leaves must go through its texts.
func checkDecode(t *testing.T, source string, cases ...decoded) {
	t.Helper()
	s := mustRead(t, source)
	for _, c := range cases {
		v, err := s.Decode(c.name, c.b, c.lim)
		e, at := plain.Told(err)
		if !slices.Equal(v, c.v) || e != c.want || at != c.at || err != nil && v != nil {
			t.Errorf("%s: Decode(%q, %.99q (of %d), %v) = %v (of %d), %v at %d, want %v (of %d), %v at %d", source, c.name, c.b, len(c.b), c.lim, v[:min(20, len(v))], len(v), e, at, c.v[:min(20, len(c.v))], len(c.v), c.want, c.at)
		}
		if b, err := s.Encode(c.name, v, c.lim); e == api.OK && (err != nil || b != c.b) {
			t.Errorf("%s: Decode(%q, %.99q) is encoded as %.99q, %v", source, c.name, c.b, b, err)
		}
		if got, want := leaves(s.Leaves(c.name, c.b, c.lim)), textsOf(c.v); !slices.Equal(got, want) {
			t.Errorf("%s: Leaves(%q, %.99q, %v) goes through %v, want %v", source, c.name, c.b, c.lim, got, want)
		}
	}
}

// leaves gives all that is gone through.
func leaves(all func(yield func(n api.Node) bool)) []api.Node {
	var out []api.Node
	for n := range all {
		out = append(out, n)
	}
	return out
}

// textsOf gives the texts of a value.
func textsOf(v []api.Node) []api.Node {
	return slices.DeleteFunc(slices.Clone(v), func(n api.Node) bool { return n.Kind != api.KText })
}

func TestExamplesOfDecode(t *testing.T) {
	const p = "\x00\x00\x00\x00\x00\x00\x00\x03abc\x00"
	checkDecode(t, example,
		gives("P", p, list(2), num(0), textAt("abc", 8)),
		fails("P", p[:11]+"\x01", api.ErrPad, 11),
		fails("P", p[:11], api.ErrShort, 8),
		fails("P", p+"x", api.ErrTail, 12),
		fails("P", p[:7]+"\x06"+p[8:], api.ErrCount, 4),
		fails("P", "\x00\x00\x00\x01"+p[4:], api.ErrWrong, 0),
	)
}

func TestP9Numbers(t *testing.T) {
	const source = "typedef int i; typedef unsigned u; typedef unsigned int v; typedef hyper h; typedef unsigned hyper w; typedef bool b; enum e { A = -2147483648, B = 2147483647, C = 5 }; enum f { P = 1, N = -1 }; enum g { Z = 3 };"
	checkDecode(t, source,
		gives("i", words32(0), num(0)), gives("i", words32(-1), num(-1)), gives("i", "\x01\x02\x03\x04", num(0x01020304)), gives("i", "\x80\x00\x00\x00", num(math.MinInt32)), gives("i", "\x7f\xff\xff\xff", num(math.MaxInt32)), gives("i", "\xff\xff\xff\xfe", num(-2)),
		gives("u", words32(0), num(0)), gives("u", "\xff\xff\xff\xff", num(math.MaxUint32)), gives("u", "\x80\x00\x00\x00", num(1<<31)), gives("u", "\x7f\xff\xff\xff", num(math.MaxInt32)), gives("u", "\xfe\xdc\xba\x98", num(0xfedcba98)),
		gives("v", "\xff\xff\xff\xff", num(math.MaxUint32)),
		gives("h", words32(0, 0), num(0)), gives("h", words32(-1, -1), num(-1)), gives("h", "\x01\x02\x03\x04\x05\x06\x07\x08", num(0x0102030405060708)), gives("h", words32(0, -1), num(math.MaxUint32)), gives("h", words32(-1, 0), num(-1<<32)),
		gives("h", "\x80\x00\x00\x00\x00\x00\x00\x00", num(math.MinInt64)), gives("h", "\x7f\xff\xff\xff\xff\xff\xff\xff", num(math.MaxInt64)), gives("h", words32(0, 1<<31), num(1<<31)),
		gives("w", words32(0, 7), num(7)), gives("w", words32(-1, -1), num(-1)), gives("w", "\x80\x00\x00\x00\x00\x00\x00\x00", num(math.MinInt64)), gives("w", "\x7f\xff\xff\xff\xff\xff\xff\xff", num(math.MaxInt64)),
		gives("b", words32(0), num(0)), gives("b", words32(1), num(1)),
		fails("b", words32(2), api.ErrWrong, 0), fails("b", words32(-1), api.ErrWrong, 0), fails("b", "\x01\x00\x00\x00", api.ErrWrong, 0), fails("b", "\x00\x00\x01\x00", api.ErrWrong, 0), fails("b", "\x80\x00\x00\x01", api.ErrWrong, 0),
		gives("e", "\x80\x00\x00\x00", num(math.MinInt32)), gives("e", "\x7f\xff\xff\xff", num(math.MaxInt32)), gives("e", words32(5), num(5)),
		fails("e", words32(0), api.ErrWrong, 0), fails("e", words32(4), api.ErrWrong, 0), fails("e", words32(6), api.ErrWrong, 0), fails("e", words32(-1), api.ErrWrong, 0), fails("e", "\x05\x00\x00\x00", api.ErrWrong, 0),
		gives("f", words32(1), num(1)), gives("f", words32(-1), num(-1)), fails("f", words32(0), api.ErrWrong, 0),
		gives("g", words32(3), num(3)), fails("g", words32(0), api.ErrWrong, 0),
	)
	for _, name := range []string{"i", "u", "v", "b", "e", "f", "g"} {
		checkDecode(t, source, fails(name, "", api.ErrShort, 0), fails(name, "\x00", api.ErrShort, 0), fails(name, "\x00\x00\x00", api.ErrShort, 0), fails(name, "\xff\xff\xff", api.ErrShort, 0))
	}
	for _, name := range []string{"h", "w"} {
		for n := range 8 {
			checkDecode(t, source, fails(name, strings.Repeat("\xff", n), api.ErrShort, 0))
		}
	}
}

func TestP9Texts(t *testing.T) {
	const source = "typedef opaque f[3]; typedef opaque g[4]; typedef opaque o<3>; typedef string s<5>; typedef opaque z<0>; typedef string y<0>; typedef opaque x<>; typedef string r<>; typedef opaque k[1000]; typedef opaque l<1000>; typedef opaque m[1];"
	long := strings.Repeat("x", 1000)
	checkDecode(t, source,
		gives("f", "abc\x00", textAt("abc", 0)), gives("f", "\x00\xff\x80\x00", textAt("\x00\xff\x80", 0)), gives("f", "\x00\x00\x00\x00", textAt("\x00\x00\x00", 0)),
		gives("g", "abcd", textAt("abcd", 0)), gives("m", "a\x00\x00\x00", textAt("a", 0)),
		gives("o", words32(0), textAt("", 4)), gives("o", words32(1)+"a\x00\x00\x00", textAt("a", 4)), gives("o", words32(2)+"ab\x00\x00", textAt("ab", 4)), gives("o", words32(3)+"abc\x00", textAt("abc", 4)),
		fails("o", words32(4)+"abcd", api.ErrCount, 0), fails("o", words32(-1), api.ErrCount, 0), fails("o", "\x80\x00\x00\x01a\x00\x00\x00", api.ErrCount, 0),
		gives("s", words32(0), textAt("", 4)), gives("s", words32(4)+"abcd", textAt("abcd", 4)), gives("s", words32(5)+"abcde\x00\x00\x00", textAt("abcde", 4)), gives("s", words32(2)+"\xff\xfe\x00\x00", textAt("\xff\xfe", 4)), fails("s", words32(6)+"abcdef\x00\x00", api.ErrCount, 0),
		gives("z", words32(0), textAt("", 4)), fails("z", words32(1)+"a\x00\x00\x00", api.ErrCount, 0), gives("y", words32(0), textAt("", 4)), fails("y", words32(1), api.ErrCount, 0),
		gives("k", long, textAt(long, 0)), fails("k", long[1:], api.ErrShort, 0), fails("k", long+"x", api.ErrTail, 1000),
		gives("l", words32(1000)+long, textAt(long, 4)), fails("l", words32(1001)+long+"x\x00\x00\x00", api.ErrCount, 0),
		gives("x", words32(1000)+long, textAt(long, 4)), gives("r", words32(999)+long[1:]+"\x00", textAt(long[1:], 4)),
	)
	most := strings.Repeat("y", 99996)
	checkDecode(t, source, gives("x", words32(99996)+most, textAt(most, 4)), gives("r", words32(99995)+most[1:]+"\x00", textAt(most[1:], 4)))
	for _, n := range []int64{1, 4, 5, 1<<31 - 1, 1 << 31, 1<<31 + 1, -1, -2, -3, -4} {
		checkDecode(t, source, fails("x", words32(n), api.ErrShort, 4), fails("r", words32(n)+"\x00\x00\x00", api.ErrShort, 4))
	}
}

func TestP9Padding(t *testing.T) {
	const source = "typedef opaque f[5]; typedef opaque o<5>; typedef string s<>; typedef opaque g[4]; struct S { int i; f f; o o; s s; int z; };"
	pads := []string{"\x01\x00\x00", "\x00\x01\x00", "\x00\x00\x01", "\x00\x80\x01", "\xff\xff\xff", "\x000\x00"}
	firsts := []int{0, 1, 2, 1, 0, 1}
	for i, pad := range pads {
		checkDecode(t, source,
			fails("f", "abcde"+pad, api.ErrPad, 5+firsts[i]), fails("f", "abcde"+pad+"tail", api.ErrPad, 5+firsts[i]), fails("o", words32(5)+"abcde"+pad, api.ErrPad, 9+firsts[i]), fails("s", words32(5)+"abcde"+pad, api.ErrPad, 9+firsts[i]), fails("s", words32(1)+"a"+pad, api.ErrPad, 5+firsts[i]),
			fails("f", "abcde"+pad[:2], api.ErrShort, 0), fails("o", words32(5)+"abcde"+pad[:2], api.ErrShort, 4), fails("s", words32(1)+"a"+pad[:1], api.ErrShort, 4),
			fails("S", words32(1)+"abcde"+pad, api.ErrPad, 9+firsts[i]), fails("S", words32(1)+"abcde\x00\x00\x00"+words32(1)+"a"+pad, api.ErrPad, 17+firsts[i]))
	}
	checkDecode(t, source,
		gives("g", "\x01\x02\x03\x04", textAt("\x01\x02\x03\x04", 0)),
		fails("s", words32(3)+"abcd", api.ErrPad, 7), fails("s", words32(2)+"abcd", api.ErrPad, 6), fails("s", words32(7)+"abcdefgh", api.ErrPad, 11), fails("s", words32(6)+"abcdef\x00h", api.ErrPad, 11),
		gives("S", words32(1)+"abcde\x00\x00\x00"+words32(3)+"abc\x00"+words32(8)+"abcdefgh"+words32(-1), list(5), num(1), textAt("abcde", 4), textAt("abc", 16), textAt("abcdefgh", 24), num(-1)))
}

func TestP9Lists(t *testing.T) {
	const source = "typedef int f[3]; typedef int a<3>; typedef int z<0>; typedef int u<>; typedef f g[2]; typedef a b<2>; typedef int *o; typedef o p[2]; typedef int one[1]; struct S { int a; hyper b; opaque c<2>; };"
	checkDecode(t, source,
		gives("f", words32(1, 2, 3), list(3), num(1), num(2), num(3)), fails("f", words32(1, 2), api.ErrShort, 8), fails("f", words32(1, 2, 3, 4), api.ErrTail, 12), fails("f", "", api.ErrShort, 0),
		gives("one", words32(9), list(1), num(9)), fails("one", words32(9, 9), api.ErrTail, 4),
		gives("a", words32(0), list(0)), gives("a", words32(1, 7), list(1), num(7)), gives("a", words32(3, 7, 8, 9), list(3), num(7), num(8), num(9)), fails("a", words32(4, 7, 8, 9, 1), api.ErrCount, 0), fails("a", words32(4), api.ErrCount, 0), fails("a", words32(-1), api.ErrCount, 0), fails("a", words32(1<<31), api.ErrCount, 0), fails("a", words32(1), api.ErrShort, 4), fails("a", words32(3, 1, 2)+"\x00", api.ErrShort, 12), fails("a", words32(0, 0), api.ErrTail, 4),
		gives("z", words32(0), list(0)), fails("z", words32(1, 5), api.ErrCount, 0), fails("z", words32(-1), api.ErrCount, 0),
		gives("u", words32(0), list(0)), gives("u", words32(4, 1, 2, 3, 4), list(4), num(1), num(2), num(3), num(4)), fails("u", words32(-1), api.ErrShort, 4), fails("u", words32(1<<31, 1, 2), api.ErrShort, 12), fails("u", "\x00\x00\x00", api.ErrShort, 0),
		gives("g", words32(1, 2, 3, 4, 5, 6), list(2), list(3), num(1), num(2), num(3), list(3), num(4), num(5), num(6)), fails("g", words32(1, 2, 3), api.ErrShort, 12), fails("g", words32(1, 2, 3, 4, 5), api.ErrShort, 20),
		gives("b", words32(2, 0, 2, 5, 6), list(2), list(0), list(2), num(5), num(6)), gives("b", words32(2, 1, 5, 0), list(2), list(1), num(5), list(0)), gives("b", words32(0), list(0)), fails("b", words32(2, 0, 4), api.ErrCount, 8), fails("b", words32(2, 1, 5, 4), api.ErrCount, 12), fails("b", words32(3, 4), api.ErrCount, 0), fails("b", words32(2, 0), api.ErrShort, 8),
		gives("p", words32(0, 1, 5), list(2), arm(0, 0), arm(1, 1), num(5)), gives("p", words32(1, 5, 0), list(2), arm(1, 1), num(5), arm(0, 0)), fails("p", words32(0), api.ErrShort, 4), fails("p", words32(0, 2), api.ErrWrong, 4),
		gives("S", words32(1, 2, 3, 2)+"ab\x00\x00", list(3), num(1), num(2<<32+3), textAt("ab", 16)), fails("S", words32(1, 2), api.ErrShort, 4), fails("S", words32(1, 2, 3), api.ErrShort, 12), fails("S", words32(1, 2, 3, 3), api.ErrCount, 12), fails("S", words32(1, 2, 3, 2)+"ab\x00", api.ErrShort, 16), fails("S", words32(1, 2, 3, 0, 0), api.ErrTail, 16),
	)
	checkDecode(t, "typedef int h[1000];",
		gives("h", strings.Repeat(words32(7), 1000), join(value(list(1000)), repeat(1000, num(7)))...),
		fails("h", strings.Repeat(words32(7), 999), api.ErrShort, 3996), fails("h", strings.Repeat(words32(7), 1001), api.ErrTail, 4000),
	)
}

func TestP9WhatMayBeMissing(t *testing.T) {
	checkDecode(t, "typedef int *o; struct T { int n; T *next; }; typedef o *oo;",
		gives("o", words32(0), arm(0, 0)), gives("o", words32(1, 7), arm(1, 1), num(7)),
		fails("o", words32(2, 7), api.ErrWrong, 0), fails("o", words32(-1, 7), api.ErrWrong, 0), fails("o", "\x01\x00\x00\x00", api.ErrWrong, 0), fails("o", "\x00\x01\x00\x01", api.ErrWrong, 0), fails("o", words32(1), api.ErrShort, 4), fails("o", words32(0, 7), api.ErrTail, 4), fails("o", words32(1, 7, 7), api.ErrTail, 8), fails("o", "\x00\x00\x00", api.ErrShort, 0), fails("o", "", api.ErrShort, 0),
		gives("oo", words32(1, 0), arm(1, 1), arm(0, 0)), gives("oo", words32(1, 1, 1), arm(1, 1), arm(1, 1), num(1)),
		gives("T", words32(1, 1, 2, 1, 3, 0), list(2), num(1), arm(1, 1), list(2), num(2), arm(1, 1), list(2), num(3), arm(0, 0)), fails("T", words32(1, 1, 2, 1, 3, 2), api.ErrWrong, 20), fails("T", words32(1, 1, 2, 1), api.ErrShort, 16), fails("T", words32(1, 1, 2), api.ErrShort, 12),
	)
}

func TestP9Unions(t *testing.T) {
	checkDecode(t, "enum E { A = 0, B = -3, C = 7 }; union U switch (E k) { case A: int a; case B: void; }; union D switch (E k) { case A: int a; default: hyper h; }; union V switch (E k) { case A: case C: string s<3>; default: void; };",
		gives("U", words32(0, 5), arm(0, 1), num(5)), gives("U", words32(-3), arm(-3, 0)),
		fails("U", words32(7), api.ErrWrong, 0), fails("U", words32(7, 5), api.ErrWrong, 0), fails("U", words32(1), api.ErrWrong, 0), fails("U", words32(3), api.ErrWrong, 0), fails("U", words32(0), api.ErrShort, 4), fails("U", words32(-3, 5), api.ErrTail, 4), fails("U", words32(0, 5, 5), api.ErrTail, 8), fails("U", "\xff\xff\xff", api.ErrShort, 0), fails("U", "", api.ErrShort, 0),
		gives("D", words32(0, 5), arm(0, 1), num(5)), gives("D", words32(-3, 0, 9), arm(-3, 1), num(9)), gives("D", words32(7, -1, -1), arm(7, 1), num(-1)), fails("D", words32(1, 0, 9), api.ErrWrong, 0), fails("D", words32(7, 0), api.ErrShort, 4),
		gives("V", words32(0, 1)+"a\x00\x00\x00", arm(0, 1), textAt("a", 8)), gives("V", words32(7, 0), arm(7, 1), textAt("", 8)), gives("V", words32(-3), arm(-3, 0)), fails("V", words32(5), api.ErrWrong, 0), fails("V", words32(7, 4), api.ErrCount, 4),
	)
	checkDecode(t, "union I switch (int k) { case -1: int *a; default: void; }; union N switch (unsigned k) { case 4294967295: int a<2>; default: opaque b[2]; }; union B switch (bool k) { case TRUE: void; case FALSE: I i; }; union O switch (bool k) { case TRUE: unsigned int k2[2]; }; union P switch (bool k) { case TRUE: int a; default: void; }; union M switch (unsigned k) { case 2147483648: void; };",
		gives("I", words32(-1, 1, 4), arm(-1, 1), arm(1, 1), num(4)), gives("I", words32(math.MaxInt32), arm(math.MaxInt32, 0)), gives("I", "\x80\x00\x00\x00", arm(math.MinInt32, 0)), gives("I", words32(-2), arm(-2, 0)), fails("I", words32(-1, 2), api.ErrWrong, 4),
		gives("N", words32(-1, 2, 4, 5), arm(math.MaxUint32, 1), list(2), num(4), num(5)), gives("N", words32(0)+"ab\x00\x00", arm(0, 1), textAt("ab", 4)), gives("N", words32(1<<31)+"ab\x00\x00", arm(1<<31, 1), textAt("ab", 4)), fails("N", words32(-1, 3), api.ErrCount, 4), fails("N", words32(-2)+"abc\x00", api.ErrPad, 6),
		gives("B", words32(1), arm(1, 0)), gives("B", words32(0, 9), arm(0, 1), arm(9, 0)), fails("B", words32(2), api.ErrWrong, 0), fails("B", words32(-1), api.ErrWrong, 0), fails("B", words32(0), api.ErrShort, 4),
		gives("O", words32(1, 4, -1), arm(1, 1), list(2), num(4), num(math.MaxUint32)), fails("O", words32(0), api.ErrWrong, 0), fails("O", words32(2, 4, 5), api.ErrWrong, 0),
		gives("P", words32(0), arm(0, 0)), gives("P", words32(1, 6), arm(1, 1), num(6)), fails("P", words32(2), api.ErrWrong, 0), fails("P", words32(-1), api.ErrWrong, 0),
		gives("M", "\x80\x00\x00\x00", arm(1<<31, 0)), fails("M", words32(0), api.ErrWrong, 0),
	)
}

func TestP9NamesOfNames(t *testing.T) {
	checkDecode(t, "typedef c d; typedef b c; typedef a b; typedef int a; struct S { d x; T t; }; typedef S T1; struct T { U *u; }; union U switch (int k) { case 1: a a; case 2: E e; default: R r[2]; }; enum E { X = 3 }; typedef R1 R; typedef opaque R1[2];",
		gives("d", words32(5), num(5)), gives("T1", words32(5, 0), list(2), num(5), list(1), arm(0, 0)),
		gives("T1", words32(5, 1, 1, 6), list(2), num(5), list(1), arm(1, 1), arm(1, 1), num(6)),
		gives("S", words32(5, 1, 2, 3), list(2), num(5), list(1), arm(1, 1), arm(2, 1), num(3)),
		gives("S", words32(5, 1, -9)+"ab\x00\x00cd\x00\x00", list(2), num(5), list(1), arm(1, 1), arm(-9, 1), list(2), textAt("ab", 12), textAt("cd", 16)),
		fails("S", words32(5, 1, 2, 4), api.ErrWrong, 12),
	)
}
