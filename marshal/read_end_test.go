package marshal_test

import (
	"strconv"
	"testing"

	"marshal/api"
)

func TestP6NamesThatAreNoType(t *testing.T) {
	for _, text := range []string{
		"typedef ^T x;", "typedef ^T x[2];", "typedef ^T x<>;", "typedef ^T *x;", "struct S { int a; ^T b; };", "union U switch (int k) { case 1: ^T a; };", "union U switch (int k) { case 1: void; default: ^T a; };",
		"program P { version V { ^T f(int) = 1; } = 1; } = 1;", "program P { version V { int f(^T) = 1; } = 1; } = 1;", "program P { version V { ^T f(W) = 1; } = 1; } = 1;",
		"typedef ^T x; const T = 1;", "const T = 1; typedef ^T x;", "typedef ^A x; enum E { A = 1 };", "typedef ^P x; program P { version V { int f(int) = 1; } = 1; } = 1;", "typedef ^a x; struct S { int a; };",
		"typedef ^T x; typedef W y;", "struct S { ^T *a; W b<>; };", "struct S { S s; }; typedef ^T x;", "typedef a a; struct S { int m; ^a2 b; };",
	} {
		checkWrong(t, []wrong{{text, api.ErrName}})
	}
	checkRight(t, "typedef T x; typedef int T;", "typedef T x; enum T { A = 1 };", "typedef T x; struct T { int a; };", "typedef T x; union T switch (int k) { case 1: void; };",
		"program P { version V { T f(S) = 1; } = 1; } = 1; typedef int T; struct S { T a; };")
}

func TestP6DefinitionsThatLeadToThemselves(t *testing.T) {
	for _, text := range []string{
		"typedef a ^a;", "typedef a ^a[2];", "typedef a ^b; typedef b a;", "struct ^S { S s; };", "struct ^S { int a; S s[1]; };", "struct ^S { int *a; string b<>; T t; }; typedef S T;", "union ^U switch (int k) { case 1: U u; default: void; };", "union ^U switch (int k) { case 1: void; default: U u; };", "union ^U switch (int k) { case 1: void; case 2: U u[3]; };",
		"struct C { A a; }; struct ^A { B b; }; struct B { A a[2]; };", "struct A { int a; }; struct ^B { C c; }; union C switch (int k) { case 1: D d; }; typedef E D[3]; struct E { A a; B b; };",
		"typedef S *x; struct ^S { x y; S s; };", "typedef S x<3>; typedef x y; struct ^S { y a; z b; }; typedef S z;", "struct A { C c; D d; }; struct ^C { D d; }; struct D { C c; };",
	} {
		checkWrong(t, []wrong{{text, api.ErrEndless}})
	}
	checkRight(t, "typedef a *a;", "typedef a a<>;", "typedef a a<0>;", "struct S { S *s; };", "struct S { S s<2>; };", "typedef b a; typedef a b<>;", "union U switch (int k) { case 1: U *u; default: U v<>; };",
		"struct A { B b; C c; }; struct B { C c; }; struct C { A *a; D d[5]; }; typedef A D<>;", "struct S { opaque S[3]; };", "typedef int T; struct S { T S[2]; T T; };",
		"typedef int t0; struct S { t0 a; t0 b; t0 c[9]; };")
}

func TestP6LongWays(t *testing.T) {
	chain := "struct s0{int a;};"
	for i := 1; i < 24; i++ {
		chain += fill("struct s#{s", strconv.Itoa(i)) + strconv.Itoa(i-1) + " a;s" + strconv.Itoa(i-1) + " b;};"
	}
	checkRight(t, chain)
	ring := ""
	for i := range 24 {
		ring += fill("struct s#{s", strconv.Itoa(i)) + strconv.Itoa((i+1)%24) + " a;s" + strconv.Itoa((i+1)%24) + " b;};"
	}
	checkRead(t, ring, api.ErrEndless, 7)
}
