package marshal_test

import (
	"errors"
	"math"
	"slices"
	"strings"
	"testing"

	"marshal/api"
	"marshal/marshal"
	"marshal/plain"
)

// last is the bit of a fragment's word that ends a record.
const last = 1 << 31

// fragment gives bytes as a fragment behind which its record goes on.
func fragment(b string) string { return words32(int64(len(b))) + b }

// record gives bytes as a record of one fragment.
func record(b string) string { return words32(int64(last+len(b))) + b }

// head is what stands ahead of a call's argument, with a credential and a verifier without bytes.
func head(xid, prog, vers, proc int64) string {
	return words32(xid, 0, 2, prog, vers, proc, 0, 0, 0, 0)
}

// taken is the record that answers a call, behind the words that are always the same.
func taken(xid int64, words ...int64) string {
	return words32(xid, 1, 0, 0, 0) + words32(words...)
}

// refused is the record that answers a call of another version of calls.
func refused(xid int64) string { return words32(xid, 1, 1, 0, 2, 2) }

// mustServe makes a server of a text.
func mustServe(t *testing.T, source string, lim api.Limits, most int, answer api.Answer) *marshal.Server {
	t.Helper()
	x, err := mustRead(t, source).Serve(lim, most, answer)
	if err != nil || x == nil {
		t.Fatalf("Serve(%v, %d): %v", lim, most, err)
	}
	return x
}

// gave is an answer that always gives the same.
func gave(v ...api.Node) api.Answer {
	return func(c api.Call, arg []api.Node) ([]api.Node, error) { return v, nil }
}

// asked is a record and the one that answers it (empty: none does).
type asked struct {
	record, want string
}

// checkCalls holds what a server answers, to one record and to all of them in one chunk, against what it should.
func checkCalls(t *testing.T, source string, lim api.Limits, answer api.Answer, cases ...asked) {
	t.Helper()
	all, wants := "", ""
	for _, c := range cases {
		want := ""
		if c.want != "" {
			want = record(c.want)
		}
		x := mustServe(t, source, lim, api.MaxSize, answer)
		if got := x.Feed(record(c.record)); got != want || x.Closed() {
			t.Errorf("%s: %.150q (of %d) by %v is answered with %.99q, want %.99q; closed: %v", source, c.record, len(c.record), lim, got, want, x.Closed())
		}
		all, wants = all+record(c.record), wants+want
	}
	x := mustServe(t, source, lim, api.MaxSize, answer)
	if got := x.Feed(all); got != wants || x.Closed() {
		t.Errorf("%s: all of them are answered with %.200q, want %.200q; closed: %v", source, got, wants, x.Closed())
	}
}

func TestP11Limits(t *testing.T) {
	s := mustRead(t, office)
	for _, c := range []struct {
		lim  api.Limits
		most int
		ok   bool
	}{
		{limits(0, 0, 0), 0, true}, {limits(64, 10000, 100000), 100000, true}, {limits(1, 1, 1), 1, true},
		{limits(-1, 0, 0), 0, false}, {limits(65, 0, 0), 0, false}, {limits(0, -1, 0), 0, false}, {limits(0, 10001, 0), 0, false}, {limits(0, 0, -1), 0, false}, {limits(0, 0, 100001), 0, false}, {limits(0, 0, 0), -1, false}, {limits(0, 0, 0), 100001, false},
		{limits(math.MinInt, 0, 0), 0, false}, {limits(0, math.MaxInt, 0), 0, false}, {limits(0, 0, math.MaxInt), 0, false}, {limits(0, 0, 0), math.MaxInt, false}, {limits(0, 0, 0), math.MinInt, false}, {limits(65, 10001, 100001), 100001, false},
	} {
		for _, answer := range []api.Answer{nil, plain.Answers(0), plain.Answers(3)} {
			x, err := s.Serve(c.lim, c.most, answer)
			var f *api.Fault
			if (x != nil) != c.ok || (err == nil) != c.ok || err != nil && (!errors.Is(err, api.ErrLimits) || errors.As(err, &f)) {
				t.Errorf("Serve(%v, %d) = a server: %v, %v", c.lim, c.most, x != nil, err)
			}
			if x != nil && x.Closed() {
				t.Errorf("Serve(%v, %d): the stream has ended already", c.lim, c.most)
			}
		}
	}
	if x, err := mustRead(t, "").Serve(wide, 9, nil); x == nil || err != nil {
		t.Errorf("Serve of an empty text: %v", err)
	}
}

// office has programs with versions in no order, and procedures of every kind of side.
const office = "enum E { A = 0, B = -3 }; struct P { E e; string s<5>; }; typedef int I; typedef I J; typedef P L<3>; " +
	"program G { version V { void nop(void) = 0; P same(P) = 1; void drop(P) = 2; P make(void) = 3; int inc(int) = 4; unsigned u(unsigned) = 5; hyper h(hyper) = 4294967295; } = 5; " +
	"version W { bool b(bool) = 1; unsigned hyper w(unsigned hyper) = 2; E e(E) = 3; J j(J) = 4; L l(L) = 2147483648; } = 2; version X { void nop(void) = 1; } = 9; } = 77; " +
	"program Q { version V { void nop(void) = 0; } = 4294967295; version W { int f(void) = 7; } = 2147483648; version X { void f(I) = 1; } = 1; } = 4294967295; program R { version V { void nop(void) = 0; } = 0; } = 0;"

// echo gives the argument.
var echo = plain.Answers(0)

func TestP13RecordsThatAreNoCalls(t *testing.T) {
	full := head(9, 77, 5, 0)
	var cases []asked
	for n := range 40 {
		cases = append(cases, asked{full[:n], ""})
	}
	cases = append(cases, asked{full, taken(9, 0)})
	for n := range 12 {
		cases = append(cases, asked{words32(9, 0, 3)[:n], ""}, asked{strings.Repeat("\x00", n), ""})
	}
	for _, kind := range []int64{1, 2, -1, 1 << 8, 1 << 16, 1 << 24, 1 << 31} {
		cases = append(cases, asked{words32(9, kind) + full[8:], ""}, asked{words32(9, kind, 3), ""}, asked{words32(9, kind, 2), ""})
	}
	checkCalls(t, office, wide, echo, cases...)
}

func TestP13OtherVersionsOfCalls(t *testing.T) {
	full := head(9, 77, 5, 0)
	var cases []asked
	for _, version := range []int64{0, 1, 3, -1, 1<<8 + 2, 1<<16 + 2, 1<<24 + 2, 1<<31 + 2, 2 << 24} {
		for _, behind := range []string{"", "?", "\x00\x00\x00", full[12:20], full[12:], full[12:] + "more"} {
			cases = append(cases, asked{words32(9, 0, version) + behind, refused(9)})
		}
	}
	for _, xid := range []int64{0, 1, -1, 0x01020304, 1 << 31} {
		cases = append(cases, asked{words32(xid, 0, 1), refused(xid)}, asked{head(xid, 77, 5, 0), taken(xid, 0)}, asked{head(xid, 78, 5, 0), taken(xid, 1)})
	}
	checkCalls(t, office, wide, echo, cases...)
}

// padded gives bytes with their padding.
func padded(b string) string { return b + "\x00\x00\x00"[:(4-len(b)%4)%4] }

// auth gives a credential or a verifier.
func auth(kind int64, b string) string { return words32(kind, int64(len(b))) + padded(b) }

func TestP13CredentialsAndVerifiers(t *testing.T) {
	words := words32(9, 0, 2, 77, 5, 0)
	var cases []asked
	both := func(one string, want string) {
		cases = append(cases, asked{words + one + auth(0, ""), want}, asked{words + auth(0, "") + one, want}, asked{words + one + auth(3, "abc"), want}, asked{words + auth(3, "abc") + one, want}, asked{words + one + one, want})
	}
	for n := range 10 {
		both(auth(int64(n), "abcdefghi"[:n]), taken(9, 0))
	}
	for _, kind := range []int64{-1, 6, 1 << 31} {
		both(auth(kind, "\x00\xff"), taken(9, 0))
	}
	for _, n := range []int{397, 398, 399, 400} {
		both(auth(1, strings.Repeat("x", n)), taken(9, 0))
	}
	for _, n := range []int{401, 402, 404, 1000} {
		both(auth(1, strings.Repeat("x", n)), "")
		both(auth(1, strings.Repeat("\x00", n)), "")
	}
	for _, n := range []int64{-1, 1 << 31, 1 << 24, math.MaxInt32, -4} {
		both(words32(0, n), "")
		both(words32(0, n)+strings.Repeat("\x00", 400), "")
	}
	for _, one := range []string{"abc\x01", "ab\x00\x01", "ab\x01\x00", "a\x00\x00\x01", "a\x00\x01\x00", "a\xff\x00\x00", "abc\x80"} {
		n := int64(len(strings.TrimRight(one, "\x00\x01\x80\xff")))
		both(words32(0, n)+one, "")
	}
	long := words + auth(7, "abcdefg") + auth(8, "hijkl")
	for n := len(words); n < len(long); n++ {
		cases = append(cases, asked{long[:n], ""})
	}
	cases = append(cases, asked{long, taken(9, 0)}, asked{long + "\x00", taken(9, 4)})
	checkCalls(t, office, wide, echo, cases...)
}

func TestP13ThereIsNoSuchProcedure(t *testing.T) {
	var cases []asked
	add := func(prog, vers, proc int64, want ...int64) {
		for _, arg := range []string{"", "x", words32(0), words32(0, 0)} {
			cases = append(cases, asked{head(9, prog, vers, proc) + arg, taken(9, want...)})
		}
	}
	for _, prog := range []int64{1, 76, 78, -2, 77 << 24, 77 + 1<<31, 1 << 31} {
		add(prog, 5, 0, 1)
		add(prog, 99, 99, 1)
	}
	for _, vers := range []int64{0, 1, 3, 4, 6, 8, 10, -1, 5 << 24, 5 + 1<<31} {
		add(77, vers, 0, 2, 2, 9)
		add(77, vers, 99, 2, 2, 9)
	}
	for _, vers := range []int64{0, 2, math.MaxInt32, 1<<31 + 1, -2} {
		add(-1, vers, 0, 2, 1, math.MaxUint32)
	}
	add(0, 1, 0, 2, 0, 0)
	add(0, -1, 9, 2, 0, 0)
	for _, proc := range []int64{6, 7, 8, -2, 1 << 31, math.MaxInt32, 1 << 24} {
		add(77, 5, proc, 3)
	}
	add(77, 2, 0, 3)
	add(77, 2, 5, 3)
	add(77, 9, 0, 3)
	add(-1, -1, 7, 3)
	add(-1, 1<<31, 0, 3)
	add(0, 0, 1, 3)
	checkCalls(t, office, wide, echo, cases...)
	for _, source := range []string{"", "const A = 1;", "struct S { int x; };"} {
		checkCalls(t, source, wide, echo, asked{head(9, 77, 5, 0), taken(9, 1)}, asked{head(9, 0, 0, 0), taken(9, 1)})
	}
}

func TestP13Results(t *testing.T) {
	p := words32(-3, 3) + "abc\x00"
	var cases []asked
	add := func(prog, vers, proc int64, arg string) {
		cases = append(cases, asked{head(9, prog, vers, proc) + arg, taken(9, 0) + arg})
	}
	add(77, 5, 0, "")
	add(77, 5, 1, p)
	add(77, 5, 1, words32(0, 0))
	add(77, 5, 4, words32(-7))
	add(77, 5, 4, words32(math.MinInt32))
	add(77, 5, 5, words32(-1))
	add(77, 5, -1, words32(1, 2))
	add(77, 5, -1, words32(-1, -2))
	add(77, 2, 1, words32(1))
	add(77, 2, 2, words32(1<<31, 2))
	add(77, 2, 3, words32(-3))
	add(77, 2, 4, words32(-3))
	add(77, 2, 1<<31, words32(0))
	add(77, 2, 1<<31, words32(2)+p+p)
	add(77, 9, 1, "")
	add(-1, -1, 0, "")
	add(0, 0, 0, "")
	checkCalls(t, office, wide, echo, cases...)
	checkCalls(t, office, wide, gave(), asked{head(9, 77, 5, 2) + p, taken(9, 0)}, asked{head(9, 77, 5, 0), taken(9, 0)}, asked{head(9, -1, 1, 1) + words32(5), taken(9, 0)})
	checkCalls(t, office, wide, gave([]api.Node{}...), asked{head(9, 77, 5, 2) + p, taken(9, 0)})
	checkCalls(t, office, wide, gave(list(2), num(0), text("xy")), asked{head(9, 77, 5, 3), taken(9, 0, 0, 2) + "xy\x00\x00"}, asked{head(9, 77, 5, 1) + p, taken(9, 0, 0, 2) + "xy\x00\x00"})
	checkCalls(t, office, wide, plain.Answers(44), asked{head(9, -1, 1<<31, 7), taken(9, 0, 44)}, asked{head(9, 77, 5, 4) + words32(8), taken(9, 0, 44)}, asked{head(9, 77, 5, -1) + words32(8, 8), taken(9, 0, 0, 44)})
}

func TestP13WrongArguments(t *testing.T) {
	var cases []asked
	add := func(vers, proc int64, args ...string) {
		for _, arg := range args {
			cases = append(cases, asked{head(9, 77, vers, proc) + arg, taken(9, 4)})
		}
	}
	add(5, 0, "\x00", "x", "abc", words32(0), words32(0, 0), strings.Repeat("x", 5000))
	add(5, 3, "\x00", words32(0), words32(0, 0))
	add(9, 1, words32(0))
	add(5, 1, "", "\x00", words32(0), words32(0)+"\x00", words32(1, 0), words32(0, 6)+"abcdef\x00\x00", words32(0, 3)+"abc", words32(0, 3)+"abc\x01", words32(0, 3)+"abc\x00x", words32(0, 0, 0))
	add(5, 2, "", words32(7, 0))
	add(5, 4, "", "\x00\x00\x00", words32(0)+"x", words32(0, 0))
	add(5, 5, "", words32(0, 0))
	add(5, -1, "", words32(0), words32(0)+"abc", words32(0, 0, 0))
	add(2, 1, "", words32(2), words32(-1), words32(0, 0))
	add(2, 2, words32(0))
	add(2, 3, words32(1), words32(3), words32(0, 0))
	add(2, 4, "", words32(0, 0))
	add(2, 1<<31, words32(4), words32(1), words32(1, 1, 0), words32(-1))
	for _, answer := range []api.Answer{echo, plain.Answers(1), plain.Answers(2), plain.Answers(3), nil} {
		checkCalls(t, office, wide, answer, cases...)
	}
}

// failing are answers that fail, though what they give, if anything, would be right of any procedure.
func failing() []api.Answer {
	thrown := func(what any) api.Answer {
		return func(c api.Call, arg []api.Node) ([]api.Node, error) { panic(what) }
	}
	var f *api.Fault
	var none map[string]int
	return []api.Answer{
		nil, plain.Answers(2), plain.Answers(3), thrown("x"), thrown(nil), thrown(api.ErrNone), thrown(&api.Fault{E: api.ErrType, At: 0}), thrown(errors.New("x")), thrown(0), thrown(false),
		func(c api.Call, arg []api.Node) ([]api.Node, error) { return arg, errors.New("") },
		func(c api.Call, arg []api.Node) ([]api.Node, error) { return arg, api.OK },
		func(c api.Call, arg []api.Node) ([]api.Node, error) { return arg, f },
		func(c api.Call, arg []api.Node) ([]api.Node, error) { none["x"] = 1; return arg, nil },
		func(c api.Call, arg []api.Node) ([]api.Node, error) { return arg[:len(arg)+100], nil },
		func(c api.Call, arg []api.Node) (v []api.Node, err error) {
			defer func() { panic("once more") }()
			panic("once")
		},
	}
}

func TestP13AnswersThatFail(t *testing.T) {
	p := words32(0, 0)
	for _, answer := range failing() {
		checkCalls(t, office, wide, answer,
			asked{head(9, 77, 5, 0), taken(9, 5)}, asked{head(9, 77, 5, 1) + p, taken(9, 5)}, asked{head(9, 77, 5, 4) + words32(1), taken(9, 5)}, asked{head(9, 77, 2, 3) + words32(0), taken(9, 5)},
			asked{head(9, 77, 5, 9), taken(9, 3)}, asked{head(9, 77, 1, 9), taken(9, 2, 2, 9)}, asked{head(9, 1, 1, 9), taken(9, 1)}, asked{head(9, 77, 5, 0) + "x", taken(9, 4)}, asked{words32(9, 0, 3), refused(9)}, asked{"", ""})
	}
}

func TestP13WrongResults(t *testing.T) {
	p := words32(0, 0)
	wrong := func(vers, proc int64, arg string, v ...api.Node) {
		t.Helper()
		checkCalls(t, office, wide, gave(v...), asked{head(9, 77, vers, proc) + arg, taken(9, 5)})
	}
	for _, n := range []api.Node{num(0), text(""), list(0), arm(0, 0), {}} {
		wrong(5, 0, "", n)
		wrong(5, 2, p, n)
		wrong(9, 1, "", n)
		wrong(5, 3, "", n)
	}
	wrong(5, 0, "", num(0), num(0))
	wrong(5, 3, "")
	wrong(5, 1, p)
	wrong(5, 1, p, list(2), num(0))
	wrong(5, 1, p, list(2), num(1), text(""))
	wrong(5, 1, p, list(2), num(0), text("abcdef"))
	wrong(5, 1, p, list(2), num(0), text(""), num(0))
	wrong(5, 1, p, list(1), num(0), text(""))
	wrong(5, 4, words32(0))
	wrong(5, 4, words32(0), num(1<<31))
	wrong(5, 4, words32(0), num(0), num(0))
	wrong(5, 5, words32(0), num(-1))
	wrong(5, -1, words32(0, 0), text("x"))
	wrong(2, 1, words32(0), num(2))
	wrong(2, 2, words32(0, 0))
	wrong(2, 3, words32(0), num(1))
	wrong(2, 4, words32(0), num(math.MaxUint32))
	wrong(2, 1<<31, words32(0), list(4))
	wrong(2, 1<<31, words32(0), list(-1))
}

// What a side may have is bound by the server's limits, as Decode and Encode of it are.
func TestP13Limits(t *testing.T) {
	p := words32(0, 3) + "abc\x00"
	call := func(vers, proc int64, arg string, want ...int64) asked {
		return asked{head(9, 77, vers, proc) + arg, taken(9, want...)}
	}
	same := func(vers, proc int64, arg string) asked {
		return asked{head(9, 77, vers, proc) + arg, taken(9, 0) + arg}
	}
	// Void needs nothing, a type without a name no depth.
	checkCalls(t, office, limits(0, 0, 0), echo, call(5, 0, "", 0), call(5, 0, "x", 4), call(5, 4, words32(0), 4), call(5, 9, "", 3), call(5, 3, "", 5), call(5, 1, "", 4))
	checkCalls(t, office, limits(0, 1, 4), echo, same(5, 4, words32(7)), same(2, 1, words32(1)), call(5, -1, words32(0, 0), 4), call(2, 3, words32(0), 4), call(2, 4, words32(0), 4))
	checkCalls(t, office, limits(0, 1, 3), echo, call(5, 4, words32(7), 4), call(5, 0, "abcdefgh", 4))
	checkCalls(t, office, limits(0, 0, 4), echo, call(5, 4, words32(7), 4))
	checkCalls(t, office, limits(0, 1, 8), echo, same(5, -1, words32(0, 7)))
	// A name is the first one.
	checkCalls(t, office, limits(1, 1, 4), echo, same(2, 3, words32(-3)), call(2, 4, words32(0), 4))
	checkCalls(t, office, limits(2, 1, 4), echo, same(2, 4, words32(5)))
	checkCalls(t, office, limits(1, 9, 99), echo, call(5, 1, p, 4))
	checkCalls(t, office, limits(2, 3, 12), echo, same(5, 1, p), call(2, 1<<31, words32(1)+p, 4))
	checkCalls(t, office, limits(2, 2, 12), echo, call(5, 1, p, 4))
	checkCalls(t, office, limits(2, 3, 11), echo, call(5, 1, p, 4))
	checkCalls(t, office, limits(3, 4, 16), echo, same(2, 1<<31, words32(1)+p))
	// And so of the results alone.
	made := gave(list(2), num(0), text("abc"))
	checkCalls(t, office, limits(2, 3, 12), made, asked{head(9, 77, 5, 3), taken(9, 0) + p})
	checkCalls(t, office, limits(1, 3, 12), made, call(5, 3, "", 5))
	checkCalls(t, office, limits(2, 2, 12), made, call(5, 3, "", 5))
	checkCalls(t, office, limits(2, 3, 11), made, call(5, 3, "", 5))
	checkCalls(t, office, limits(0, 1, 4), plain.Answers(9), asked{head(9, -1, 1<<31, 7), taken(9, 0, 9)})
	checkCalls(t, office, limits(0, 0, 4), plain.Answers(9), asked{head(9, -1, 1<<31, 7), taken(9, 5)})
	checkCalls(t, office, limits(0, 1, 3), plain.Answers(9), asked{head(9, -1, 1<<31, 7), taken(9, 5)})
}

// The argument alone is bound by Size, and an answer by nothing else: not by what a record may have.
func TestP13LongArgumentsAndResults(t *testing.T) {
	const source = "typedef opaque O<>; program G { version V { O same(O) = 1; O make(void) = 2; } = 1; } = 1;"
	long := strings.Repeat("x", 99900)
	arg := words32(99900) + long
	checkCalls(t, source, limits(1, 1, 99904), echo, asked{head(9, 1, 1, 1) + arg, taken(9, 0) + arg})
	checkCalls(t, source, limits(1, 1, 99903), echo, asked{head(9, 1, 1, 1) + arg, taken(9, 4)})
	most := strings.Repeat("y", 99996)
	checkCalls(t, source, wide, gave(text(most)), asked{head(9, 1, 1, 2), taken(9, 0, 99996) + most})
	checkCalls(t, source, wide, gave(text(most+"y")), asked{head(9, 1, 1, 2), taken(9, 5)})
	x := mustServe(t, source, wide, 40, gave(text(most)))
	if got := x.Feed(record(head(9, 1, 1, 2))); got != record(taken(9, 0, 99996)+most) {
		t.Errorf("a long result is answered with %d bytes", len(got))
	}
}

// heard is what an answer was asked.
type heard struct {
	call api.Call
	arg  []api.Node
}

func TestP13WhatIsAsked(t *testing.T) {
	var got []heard
	listen := func(c api.Call, arg []api.Node) ([]api.Node, error) {
		got = append(got, heard{c, arg})
		return arg, nil
	}
	x := mustServe(t, office, limits(3, 99, 999), 999, listen)
	p := words32(-3, 3) + "abc\x00"
	for _, r := range []string{
		"", head(1, 77, 5, 0)[:39], words32(1, 1, 2) + head(1, 77, 5, 0)[12:], words32(1, 0, 3) + head(1, 77, 5, 0)[12:], head(1, 78, 5, 0), head(1, 77, 4, 0), head(1, 77, 5, 6), head(1, 77, 5, 0) + "x", head(1, 77, 5, 1) + p[:8], words32(1, 0, 2, 77, 5, 0, 0, 401, 0, 0),
		head(1, 77, 5, 0), head(2, 77, 5, 1) + p, head(3, -1, 1<<31, 7), head(4, 77, 2, 1<<31) + words32(2) + p + p, words32(5, 0, 2, 77, 5, -1) + auth(1, "abcde") + auth(2, "x") + words32(-1, 5), head(6, 0, 0, 0),
	} {
		x.Feed(record(r))
	}
	want := []heard{
		{api.Call{Prog: 77, Vers: 5, Proc: 0}, nil},
		{api.Call{Prog: 77, Vers: 5, Proc: 1}, value(list(2), num(-3), textAt("abc", 8))},
		{api.Call{Prog: math.MaxUint32, Vers: 1 << 31, Proc: 7}, nil},
		{api.Call{Prog: 77, Vers: 2, Proc: 1 << 31}, value(list(2), list(2), num(-3), textAt("abc", 12), list(2), num(-3), textAt("abc", 24))},
		{api.Call{Prog: 77, Vers: 5, Proc: math.MaxUint32}, value(num(-1<<32 + 5))},
		{api.Call{}, nil},
	}
	if !slices.EqualFunc(got, want, func(a, b heard) bool {
		return a.call == b.call && slices.Equal(a.arg, b.arg) && (a.arg == nil) == (b.arg == nil)
	}) {
		t.Errorf("what was asked is %v, want %v", got, want)
	}
}
