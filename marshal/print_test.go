package marshal_test

import (
	"testing"

	"marshal/marshal"
)

func checkPrint(t *testing.T, text, want string) {
	t.Helper()
	s, err := marshal.Read(text)
	if err != nil {
		t.Errorf("Read(%q): %v", text, err)
		return
	}
	if got := s.Print(); got != want {
		t.Errorf("Print of %q:\n%q, want\n%q", text, got, want)
	}
}

func TestExamplesOfPrint(t *testing.T) {
	checkPrint(t, "union U switch(unsigned int k){case TRUE:case 0x10:void;};", "union U switch (unsigned k) { case 1: case 16: void; };\n")
	const promised = `enum E { A = 0, B = 1 };
struct S { E *e; opaque o[4]; int l<9>; };
union U switch (E k) { case 0: case 1: void; default: S s; };
program P { version V { void f(S) = 1; } = 1; } = 7;
`
	checkPrint(t, promised, promised)
}

func TestP7EveryForm(t *testing.T) {
	for text, want := range map[string]string{
		"":                       "",
		"/* only a comment */\n": "",
		"const a=0x10;const b\n=\ta;const c=TRUE;const d=FALSE;const e=-0;const f=-7;const g=f;":                                      "const a = 16;\nconst b = 16;\nconst c = 1;\nconst d = 0;\nconst e = 0;\nconst f = -7;\nconst g = -7;\n",
		"const a=4294967295;const b=-2147483648;const c=0xFFFFFFFF;":                                                                  "const a = 4294967295;\nconst b = -2147483648;\nconst c = 4294967295;\n",
		"typedef opaque a[ 0x4 ];typedef opaque b<0>;typedef opaque c< >;":                                                            "typedef opaque a[4];\ntypedef opaque b<0>;\ntypedef opaque c<4294967295>;\n",
		"const n=3;typedef string a<n>;typedef string b<>;":                                                                           "const n = 3;\ntypedef string a<3>;\ntypedef string b<4294967295>;\n",
		"typedef int a;typedef unsigned b;typedef unsigned int c;typedef hyper d;":                                                    "typedef int a;\ntypedef unsigned b;\ntypedef unsigned c;\ntypedef hyper d;\n",
		"typedef unsigned hyper a;typedef bool b;typedef a c;typedef c * d;typedef unsigned int*e;":                                   "typedef unsigned hyper a;\ntypedef bool b;\ntypedef a c;\ntypedef c *d;\ntypedef unsigned *e;\n",
		"typedef unsigned int a [ 2 ];typedef unsigned hyper b<>;typedef b c<TRUE>;":                                                  "typedef unsigned a[2];\ntypedef unsigned hyper b<4294967295>;\ntypedef b c<1>;\n",
		"enum E{A=-1};enum F{B=A,C=0x7fffffff,D=TRUE};":                                                                               "enum E { A = -1 };\nenum F { B = -1, C = 2147483647, D = 1 };\n",
		"struct S{int a;};struct T{S*a;S b<>;string c<5>;opaque d[2];unsigned int e;bool f[3];};":                                     "struct S { int a; };\nstruct T { S *a; S b<4294967295>; string c<5>; opaque d[2]; unsigned e; bool f[3]; };\n",
		"union U switch(int k){case -1:void;};":                                                                                       "union U switch (int k) { case -1: void; };\n",
		"union U switch(bool k){case FALSE:int*a;case TRUE:opaque b<7>;default:string c<>;};":                                         "union U switch (bool k) { case 0: int *a; case 1: opaque b<7>; default: string c<4294967295>; };\n",
		"enum E{A=5};union U switch(E k){case A:unsigned int a[2];default:void;};":                                                    "enum E { A = 5 };\nunion U switch (E k) { case 5: unsigned a[2]; default: void; };\n",
		"program P{version V{void f(void)=0;unsigned int g(unsigned hyper)=0x2;}=TRUE;version W{bool f(hyper)=4294967295;}=3;}=0x20;": "program P { version V { void f(void) = 0; unsigned g(unsigned hyper) = 2; } = 1; version W { bool f(hyper) = 4294967295; } = 3; } = 32;\n",
		"typedef T x;program P{version V{T f(x)=1;}=1;}=1;typedef int T;":                                                             "typedef T x;\nprogram P { version V { T f(x) = 1; } = 1; } = 1;\ntypedef int T;\n",
	} {
		checkPrint(t, text, want)
	}
}

func TestP7WhatIsPrintedSaysTheSame(t *testing.T) {
	for _, text := range []string{whole, many(24, "typedef int t#;"), many(12, "const c#=#;"), "struct S{" + many(12, "int m#<#>;") + "};"} {
		s, err := marshal.Read(text)
		if err != nil {
			t.Fatalf("Read(%q): %v", text, err)
		}
		checkPrint(t, s.Print(), s.Print())
	}
}
