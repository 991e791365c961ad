package marshal_test

import (
	"testing"

	"marshal/api"
)

func TestP5FullOfTypes(t *testing.T) {
	full := many(24, "typedef int t#;")
	checkRight(t, full, many(24, "enum e#{a#=0};"), many(24, "struct s#{int a;};"), many(24, "union u# switch(int k){case 0:void;};"),
		full+"const c = 1; program P { version V { t0 f(t23) = 1; } = 1; } = 1;",
		many(6, "typedef int t#;enum e#{a#=0};struct s#{int a;};union u# switch(int k){case 0:void;};"))
	for _, k := range []string{"typedef", "enum", "struct", "union"} {
		checkWrong(t, []wrong{
			{full + "^" + k, api.ErrFull}, {full + "^" + k + " $", api.ErrFull}, {full + "const c = 1; ^" + k + " ;", api.ErrFull},
			{many(6, "typedef int t#;enum e#{a#=0};struct s#{int a;};union u# switch(int k){case 0:void;};") + "^" + k, api.ErrFull},
			{many(23, "typedef int t#;") + k + "^", api.ErrSyntax},
			{full + "const c = ^" + k, api.ErrSyntax},
		})
	}
	checkWrong(t, []wrong{{full + "^x", api.ErrSyntax}, {full + "^$", api.ErrChar}})
}

func TestP5FullOfConstants(t *testing.T) {
	full := many(40, "const c#=1;")
	members := "enum F{" + many(11, "b#=#,") + "b=99};"
	checkRight(t, full, full+"typedef int t;", many(28, "const c#=1;")+members, members+many(28, "const c#=1;"))
	checkWrong(t, []wrong{
		{full + "^const x = 1;", api.ErrFull}, {full + "^const", api.ErrFull}, {full + "typedef ^const", api.ErrSyntax},
		{full + "enum E { ^A = 1 };", api.ErrFull}, {full + "enum E { ^};", api.ErrFull}, {full + "enum E { ^", api.ErrFull}, {full + "enum E { ^1", api.ErrFull},
		{full + "enum E { ^08", api.ErrNumber}, {full + "enum E { ^$", api.ErrChar}, {full + "enum E ^;", api.ErrSyntax},
		{many(39, "const c#=1;") + "enum E { A = 1, ^B = 2 };", api.ErrFull}, {many(39, "const c#=1;") + "enum E { A = 1, ^};", api.ErrFull}, {many(39, "const c#=1;") + "enum E { A = 1 ^;", api.ErrSyntax},
		{many(28, "const c#=1;") + members + "^const x = 1;", api.ErrFull}, {many(29, "const c#=1;") + "enum F{" + many(11, "b#=#,") + "^b=99};", api.ErrFull},
		{full + "enum E { ^E = 1 };", api.ErrFull},
	})
	checkRight(t, many(39, "const c#=1;")+"enum E { A = 1 };")
}

func TestP5FullOfMembers(t *testing.T) {
	enum, structure := "enum E{"+many(11, "a#=#,")+"b=99", "struct S{"+many(12, "int m#;")
	checkRight(t, enum+"};", structure+"};", enum+"};enum F{"+many(11, "c#=#,")+"d=99};")
	checkWrong(t, []wrong{
		{enum + ",^c=100};", api.ErrFull}, {enum + ",^};", api.ErrFull}, {enum + ",^a0=0};", api.ErrFull}, {enum + ",^", api.ErrFull}, {enum + ",^,", api.ErrFull},
		{enum + ",^$", api.ErrChar}, {enum + ",^abcdefghijklmnopq", api.ErrName}, {enum + "^;", api.ErrSyntax}, {enum + "^", api.ErrSyntax},
		{structure + "^int n;};", api.ErrFull}, {structure + "^void;};", api.ErrFull}, {structure + "^;", api.ErrFull}, {structure + "^", api.ErrFull}, {structure + "^int m0;};", api.ErrFull},
		{structure + "^08", api.ErrNumber}, {structure + "^/*", api.ErrChar}, {structure + "}^}", api.ErrSyntax},
	})
}

func TestP5FullOfCases(t *testing.T) {
	arms, cases := "union U switch(int k){"+many(12, "case #:void;"), "union U switch(int k){"+many(12, "case #:")
	checkRight(t, arms+"};", arms+"default:int a;};", cases+"void;};", cases+"int a;default:void;};", arms+"};union V switch(int k){"+many(12, "case #:void;")+"};")
	checkWrong(t, []wrong{
		{arms + "^case 12:void;};", api.ErrFull}, {arms + "^case", api.ErrFull}, {arms + "^case 0", api.ErrFull}, {arms + "^case $", api.ErrFull},
		{cases + "^case 12:void;};", api.ErrFull}, {cases + "void;^case 12:void;};", api.ErrFull},
		{arms + "^x", api.ErrSyntax}, {arms + "^void", api.ErrSyntax}, {arms + "^", api.ErrSyntax}, {arms + "^$", api.ErrChar},
		{arms + "default:void;^case 12:void;};", api.ErrSyntax}, {cases + "^}", api.ErrSyntax},
	})
}

func TestP5FullOfProgramsVersionsProcedures(t *testing.T) {
	programs := many(4, "program p#{version v{int f(int)=1;}=1;}=#;")
	versions := "program P{" + many(4, "version v#{int f(int)=1;}=#;")
	procs := "program P{version V{" + many(8, "int f#(int)=#;")
	checkRight(t, programs, programs+"const c = 1;", versions+"}=1;", procs+"}=1;}=1;", procs+"}=1;version W{"+many(8, "int f#(int)=#;")+"}=2;}=1;", versions+"}=1;program Q{"+many(4, "version v#{int f(int)=1;}=#;")+"}=2;")
	checkWrong(t, []wrong{
		{programs + "^program", api.ErrFull}, {programs + "const c = 1; ^program P {", api.ErrFull}, {programs + "^version", api.ErrSyntax},
		{versions + "^version v4{int f(int)=1;}=4;}=1;", api.ErrFull}, {versions + "^x", api.ErrFull}, {versions + "^", api.ErrFull}, {versions + "^$", api.ErrChar}, {versions + "}^}", api.ErrSyntax},
		{procs + "^int f8(int)=8;}=1;}=1;", api.ErrFull}, {procs + "^void", api.ErrFull}, {procs + "^]", api.ErrFull}, {procs + "^", api.ErrFull}, {procs + "^0x", api.ErrNumber}, {procs + "}^;", api.ErrSyntax},
	})
}

func TestP5NamesThatAreTaken(t *testing.T) {
	kinds := []string{"const # = 1;", "typedef int #;", "typedef opaque #<>;", "typedef int *#;", "typedef string #<>;", "enum # { zA = 1 };", "enum zE { # = 1 };", "struct # { int a; };", "union # switch (int k) { case 1: void; };", "program # { version V { int f(int) = 1; } = 1; } = 1;"}
	for _, first := range kinds {
		for _, second := range []string{"const ^N = 2;", "typedef hyper ^N;", "typedef opaque ^N[3];", "typedef bool *^N;", "enum ^N { B = 1 };", "enum F { ^N = 2 };", "enum F { B = 1, ^N = 2 };", "struct ^N { int b; };", "union ^N switch (int k) {", "program ^N {"} {
			checkWrong(t, []wrong{{fill(first, "N") + second, api.ErrTwice}})
		}
		checkRight(t, fill(first, "N")+"struct T { int N; int T; int N2; }; union W switch (int N) { case 1: int W; case 2: int T; };"+"program P { version N { int N(int) = 1; int P(int) = 2; } = 1; version P { int N(int) = 1; } = 2; } = 2;")
	}
	checkWrong(t, []wrong{
		{"enum E { ^E = 1 };", api.ErrTwice}, {"enum E { A = 1, ^A = 2 };", api.ErrTwice},
		{"struct S { int a; string b<>; opaque ^a[1]; };", api.ErrTwice}, {"struct S { int a; int *^a; };", api.ErrTwice},
		{"union U switch (int k) { case 1: int ^k; };", api.ErrTwice}, {"union U switch (int k) { case 1: int a; case 2: void; case 3: hyper *^a; };", api.ErrTwice}, {"union U switch (int k) { case 1: int a; default: int ^a; };", api.ErrTwice}, {"union U switch (int k) { case 1: int a; default: int ^k; };", api.ErrTwice},
		{"program P { version V { int f(int) = 1; } = 1; version ^V", api.ErrTwice}, {"program P { version V { int f(int) = 1; void ^f(void) = 2; } = 1; } = 1;", api.ErrTwice},
	})
	checkRight(t, "struct S { int a; }; struct T { int a; };", "union U switch (int k) { case 1: int a; }; union V switch (int k) { case 1: int a; };",
		"program P { version V { int f(int) = 1; } = 1; version W { int f(int) = 1; } = 2; } = 1; program Q { version V { int f(int) = 1; } = 1; } = 2;")
}

func TestP5NamesThatAreNoValue(t *testing.T) {
	for _, text := range []string{
		"const a = ^a;", "const a = ^b; const b = 1;", "enum E { A = ^A };", "enum E { A = ^B, B = 1 };", "enum E { A = ^E };", "typedef int a[^a];", "typedef int a<^b>;",
		"typedef int t; const a = ^t;", "enum E { A = 1 }; const a = ^E;", "struct S { int m; }; const a = ^S;", "struct S { int m; }; const a = ^m;", "union U switch (int k) { case ^k: void; };", "union U switch (int k) { case ^U: void; };",
		"program P { version V { int f(int) = ^f; } = 1; } = 1;", "program P { version V { int f(int) = 1; } = ^V; } = 1;", "program P { version V { int f(int) = 1; } = 1; } = ^P;", "program P { version V { int f(int) = 1; } = 1; } = 1; const a = ^P;", "const a = ^true;",
	} {
		checkWrong(t, []wrong{{text, api.ErrName}})
	}
	checkRight(t, "const a = 2; const b = a; enum E { A = b, B = 3 }; typedef int t[A]; typedef int l<B>; union U switch (E k) { case a: void; case B: void; };",
		"enum E { A = 1 }; enum F { B = A, C = 2 };", "const a = 5; program P { version V { int f(int) = a; } = a; } = a;")
}

func TestP5NamesThatAreNoEnumeration(t *testing.T) {
	for _, text := range []string{
		"union U switch (^E k) { case 1: void; }; enum E { A = 1 };", "union U switch (^U k)", "typedef int t; union U switch (^t k)", "enum E { A = 1 }; typedef E t; union U switch (^t k)", "enum E { A = 1 }; union U switch (^A k)",
		"const c = 1; union U switch (^c k)", "struct S { int a; }; union U switch (^S k)", "program P { version V { int f(int) = 1; } = 1; } = 1; union U switch (^P $", "union V switch (int k) { case 1: void; }; union U switch (^V k)",
	} {
		checkWrong(t, []wrong{{text, api.ErrName}})
	}
}

func TestP5Ranges(t *testing.T) {
	for _, c := range []struct {
		form        string // # is the value
		right, wide []string
	}{
		{"const a = #;", []string{"-2147483648", "4294967295"}, nil},
		{"enum E { A = # };", []string{"-2147483648", "0", "TRUE", "2147483647"}, []string{"2147483648", "4294967295", "0xffffffff", "big"}},
		{"typedef int t[#];", []string{"1", "TRUE", "1000"}, []string{"0", "FALSE", "-0", "1001", "-1", "4294967295", "big", "low"}},
		{"typedef opaque t[#];", []string{"1", "1000", "0x3e8"}, []string{"0", "1001", "-1", "0x3e9"}},
		{"struct S { int t[#]; };", []string{"1", "1000"}, []string{"0", "1001"}},
		{"typedef int t<#>;", []string{"0", "-0", "1", "1001", "4294967295", "big"}, []string{"-1", "-2147483648", "low"}},
		{"typedef opaque t<#>;", []string{"0", "4294967295"}, []string{"-1"}},
		{"typedef string t<#>;", []string{"0", "4294967295"}, []string{"-1"}},
		{"program P { version V { int f(int) = 1; } = 1; } = #;", []string{"0", "4294967295"}, []string{"-1", "low"}},
		{"program P { version V { int f(int) = 1; } = #; } = 1;", []string{"0", "4294967295"}, []string{"-1", "low"}},
		{"program P { version V { int f(int) = #; } = 1; } = 1;", []string{"0", "4294967295"}, []string{"-1", "low"}},
		{"union U switch (int k) { case #: void; };", []string{"-2147483648", "low", "0", "TRUE", "2147483647"}, []string{"2147483648", "4294967295", "big"}},
		{"union U switch (unsigned k) { case #: void; };", []string{"0", "2147483648", "4294967295"}, []string{"-1", "-2147483648", "low"}},
		{"union U switch (unsigned int k) { case #: void; };", []string{"0", "4294967295"}, []string{"-1"}},
		{"union U switch (bool k) { case #: void; };", []string{"0", "1", "TRUE", "FALSE"}, []string{"-1", "2", "big"}},
		{"enum E { A = -3, B = 1, C = 7 }; union U switch (E k) { case #: void; };", []string{"-3", "A", "1", "TRUE", "B", "7"}, []string{"-4", "-2", "0", "FALSE", "2", "8", "4294967293", "big"}},
	} {
		const constants = "const big = 4294967295; const low = -2147483648; "
		for _, v := range c.right {
			checkRight(t, constants+fill(c.form, v))
		}
		for _, v := range c.wide {
			checkWrong(t, []wrong{{constants + fill(c.form, "^"+v), api.ErrRange}})
		}
	}
}

func TestP5NumbersThatAreTaken(t *testing.T) {
	checkWrong(t, []wrong{
		{"enum E { A = 1, B = ^1 };", api.ErrTwice}, {"enum E { A = 1, B = ^A };", api.ErrTwice}, {"enum E { A = 1, B = ^TRUE };", api.ErrTwice}, {"enum E { A = 0, B = ^-0 };", api.ErrTwice},
		{"union U switch (int k) { case 1: case ^1: void; };", api.ErrTwice}, {"union U switch (int k) { case 1: void; case ^0x1: void; };", api.ErrTwice}, {"enum E { A = 1 }; union U switch (E k) { case 1: void; case ^A: void; };", api.ErrTwice}, {"union U switch (bool k) { case TRUE: void; case ^1: void; };", api.ErrTwice},
		{"program P { version V { int f(int) = 1; int g(int) = ^1; } = 1; } = 1;", api.ErrTwice}, {"program P { version V { int f(int) = 1; } = 1; version W { int f(int) = 1; } = ^1; } = 1;", api.ErrTwice},
		{"program P { version V { int f(int) = 1; } = 1; } = 7; program Q { version V { int f(int) = 1; } = 1; } = ^7;", api.ErrTwice},
	})
	checkRight(t, "const a = 1; const b = 1; enum E { A = 1 }; enum F { B = 1 };", "union U switch (int k) { case 1: void; }; union V switch (int k) { case 1: void; };",
		"program P { version V { int f(int) = 1; } = 1; version W { int f(int) = 1; } = 2; } = 1; program Q { version V { int f(int) = 1; } = 1; } = 2;")
}
