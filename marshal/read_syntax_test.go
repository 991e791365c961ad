package marshal_test

import (
	"strings"
	"testing"

	"marshal/api"
	"marshal/marshal"
	"marshal/plain"
)

func TestP4EveryForm(t *testing.T) {
	checkRight(t,
		"const a = 1;", "const a = -1; const b = a; const c = TRUE; const d = FALSE;",
		"typedef opaque a[1]; typedef opaque b<1>; typedef opaque c<>; typedef string d<1>; typedef string e<>;",
		"typedef int a; typedef int b[1]; typedef int c<1>; typedef int d<>; typedef int *e;",
		"typedef int a; typedef unsigned b; typedef unsigned int c; typedef hyper d; typedef unsigned hyper e; typedef bool f; typedef a g;",
		"enum E { A = 1 };", "enum E { A = 1, B = 2, C = 0 };",
		"struct S { int a; };", "struct S { opaque a[1]; string b<>; unsigned int c<1>; bool *d; };",
		"union U switch (int k) { case 1: void; };", "union U switch (unsigned k) { case 1: int a; };",
		"union U switch (unsigned int k) { case 1: case 2: opaque o<>; case 3: void; default: string s<>; };",
		"union U switch (bool k) { case TRUE: void; case FALSE: int *a; };",
		"enum E { A = 1 }; union U switch (E k) { case A: void; default: int a; };",
		"program P { version V { void f(void) = 1; } = 1; } = 1;",
		"program P { version V { int f(unsigned) = 1; unsigned int g(unsigned hyper) = 2; } = 1; version W { bool f(hyper) = 1; } = 2; } = 1;",
		"typedef int T; program P { version V { T f(T) = 1; } = 1; } = 1;")
}

func TestP4WhatCannotStandThere(t *testing.T) {
	checkWrong(t, []wrong{
		{"^x", api.ErrSyntax}, {"^;", api.ErrSyntax}, {"^int a;", api.ErrSyntax}, {"^1", api.ErrSyntax}, {"^case", api.ErrSyntax}, {"^version V", api.ErrSyntax},
		{"const a = 1; ^;", api.ErrSyntax}, {"const ^1 = 1;", api.ErrSyntax}, {"const a ^: 1;", api.ErrSyntax}, {"const a = ^;", api.ErrSyntax}, {"const a = ^int;", api.ErrSyntax}, {"const a = 1^, b = 2;", api.ErrSyntax},
		{"typedef ^void;", api.ErrSyntax}, {"typedef ^void a;", api.ErrSyntax}, {"typedef ^struct a b;", api.ErrSyntax}, {"typedef ^*a;", api.ErrSyntax}, {"typedef int ^;", api.ErrSyntax}, {"typedef int *^*a;", api.ErrSyntax},
		{"typedef int *a^[1];", api.ErrSyntax}, {"typedef int *a^<1>;", api.ErrSyntax}, {"typedef int a[^];", api.ErrSyntax}, {"typedef int a[1^>;", api.ErrSyntax}, {"typedef int a<1^];", api.ErrSyntax}, {"typedef int a<^];", api.ErrSyntax}, {"typedef int a[1]^[1];", api.ErrSyntax}, {"typedef int a^(1);", api.ErrSyntax},
		{"typedef opaque ^*a;", api.ErrSyntax}, {"typedef opaque a^;", api.ErrSyntax}, {"typedef opaque a[^];", api.ErrSyntax}, {"typedef string ^*a;", api.ErrSyntax}, {"typedef string a^;", api.ErrSyntax}, {"typedef string a^[1];", api.ErrSyntax},
		{"typedef unsigned ^bool a;", api.ErrSyntax}, {"typedef unsigned ^unsigned a;", api.ErrSyntax}, {"typedef int ^int a;", api.ErrSyntax}, {"typedef hyper ^int a;", api.ErrSyntax}, {"typedef unsigned int ^hyper a;", api.ErrSyntax}, {"typedef ^TRUE a;", api.ErrSyntax},
		{"enum ^{ A = 1 };", api.ErrSyntax}, {"enum E ^A", api.ErrSyntax}, {"enum E { ^};", api.ErrSyntax}, {"enum E { A = 1, ^};", api.ErrSyntax}, {"enum E { A ^};", api.ErrSyntax}, {"enum E { A = 1 ^; };", api.ErrSyntax}, {"enum E { A = 1 ^B = 2 };", api.ErrSyntax}, {"enum E { A = 1 }^", api.ErrSyntax}, {"enum E { ^, A = 1 };", api.ErrSyntax}, {"enum E { ^1 = 1 };", api.ErrSyntax},
		{"struct S { ^};", api.ErrSyntax}, {"struct S { ^; };", api.ErrSyntax}, {"struct S { ^void; };", api.ErrSyntax}, {"struct S { int a^, int b; };", api.ErrSyntax}, {"struct S { int a ^};", api.ErrSyntax}, {"struct S { int a; } ^S;", api.ErrSyntax}, {"struct S ^= 1;", api.ErrSyntax}, {"struct S { int a; ^= ", api.ErrSyntax},
		{"union U ^{", api.ErrSyntax}, {"union U switch ^int", api.ErrSyntax}, {"union U switch (^hyper k)", api.ErrSyntax}, {"union U switch (unsigned ^hyper k)", api.ErrSyntax}, {"union U switch (int ^)", api.ErrSyntax}, {"union U switch (int ^*k)", api.ErrSyntax}, {"union U switch (int k^[1])", api.ErrSyntax}, {"union U switch (^string k)", api.ErrSyntax}, {"union U switch (^void)", api.ErrSyntax},
		{"union U switch (int k) { ^};", api.ErrSyntax}, {"union U switch (int k) { ^default: void; };", api.ErrSyntax}, {"union U switch (int k) { case ^: void; };", api.ErrSyntax}, {"union U switch (int k) { case 1 ^void; };", api.ErrSyntax}, {"union U switch (int k) { case 1: ^};", api.ErrSyntax}, {"union U switch (int k) { case 1: ^default: void; };", api.ErrSyntax}, {"union U switch (int k) { case 1: ^; };", api.ErrSyntax}, {"union U switch (int k) { case 1: void ^a; };", api.ErrSyntax}, {"union U switch (int k) { case 1: void; ^void; };", api.ErrSyntax},
		{"union U switch (int k) { case 1: void; default: void; ^case 2: void; };", api.ErrSyntax}, {"union U switch (int k) { case 1: void; default: void; ^default: void; };", api.ErrSyntax}, {"union U switch (int k) { case 1: void; default: ^case 2: void; };", api.ErrSyntax}, {"union U switch (int k) { case 1: void; default ^void; };", api.ErrSyntax},
		{"program P { ^} = 1;", api.ErrSyntax}, {"program P { ^int f(int) = 1; } = 1;", api.ErrSyntax}, {"program P { version V { ^} = 1; } = 1;", api.ErrSyntax}, {"program P { version V { ^version W", api.ErrSyntax}, {"program P { version V { int f(int) = 1; } ^; } = 1;", api.ErrSyntax}, {"program P { version V { int f(int) = 1; } = 1; }^;", api.ErrSyntax}, {"program P { version V { int f(int) = 1; } = 1 ^} = 1;", api.ErrSyntax},
		{"program P { version V { int f(int ^a) = 1; } = 1; } = 1;", api.ErrSyntax}, {"program P { version V { int f(^) = 1; } = 1; } = 1;", api.ErrSyntax}, {"program P { version V { int f(int^, int) = 1; } = 1; } = 1;", api.ErrSyntax}, {"program P { version V { int ^*f(int) = 1; } = 1; } = 1;", api.ErrSyntax}, {"program P { version V { int f(^opaque) = 1; } = 1; } = 1;", api.ErrSyntax}, {"program P { version V { ^string f(void) = 1; } = 1; } = 1;", api.ErrSyntax}, {"program P { version V { int f(int)^; } = 1; } = 1;", api.ErrSyntax}, {"program P { version V { int f(int) = 1^, } = 1; } = 1;", api.ErrSyntax},
	})
}

// whole is a text with every form of P4.
const whole = `const a = -1; const b = TRUE; typedef opaque o[4]; typedef opaque p<b>; typedef string s<>;
enum E { A = 0, B = b }; struct S { E *e; unsigned int u[2]; o x; unsigned hyper h<9>; hyper i<>; };
union U switch (E k) { case A: case 1: void; default: S s; }; union V switch (unsigned int k) { case 0xA: string t<3>; };
program P { version V { void f(S) = 1; unsigned g(void) = 2; } = 1; version W { U f(bool) = 0; } = 3; } = 7;`

// places gives the places of the words of a text without comments, and of its end.
func places(text string) []int {
	var at []int
	inName := false
	for i := range len(text) {
		isName := text[i] == '_' || text[i] == '-' || '0' <= text[i] && text[i] <= '9' || 'a' <= text[i]|0x20 && text[i]|0x20 <= 'z'
		if !strings.ContainsRune(" \t\n", rune(text[i])) && !(inName && isName) {
			at = append(at, i)
		}
		inName = isName
	}
	return append(at, len(text))
}

// TestP3EveryWordOfATextIsReached breaks off a right text at each of its words: what stands ahead must not be found wrong, and what is put there must be.
func TestP3EveryWordOfATextIsReached(t *testing.T) {
	checkRight(t, whole)
	for _, at := range places(whole) {
		ahead, behind := whole[:at], whole[at:]
		checkRead(t, ahead+"$ "+behind, api.ErrChar, at)
		checkRead(t, ahead+"/* "+behind, api.ErrChar, at)
		checkRead(t, ahead+" 08 "+behind, api.ErrNumber, at+1)
		checkRead(t, ahead+" abcdefghijklmnopq "+behind, api.ErrName, at+1)
	}
}

// TestP4TheEndCannotStandWithinADefinition cuts a right text: what is left is right where a definition ends there, and else the end is wrong.
func TestP4TheEndCannotStandWithinADefinition(t *testing.T) {
	for _, at := range places(whole) {
		s, err := marshal.Read(whole[:at])
		e, place := plain.Told(err)
		if s == nil && (e != api.ErrSyntax || place != at) {
			t.Errorf("Read(%q) = %v at %d, want %v at %d", whole[:at], e, place, api.ErrSyntax, at)
		}
		if ended := strings.HasSuffix(strings.TrimSpace(whole[:at]), ";"); s != nil && at > 0 && !ended {
			t.Errorf("Read(%q) is right", whole[:at])
		}
	}
}
