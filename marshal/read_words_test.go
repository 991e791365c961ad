package marshal_test

import (
	"strconv"
	"strings"
	"testing"

	"marshal/api"
	"marshal/marshal"
	"marshal/plain"
)

// wrong is a text with a ^ ahead of the word at which the error is.
type wrong struct {
	text string
	want api.Errno
}

// fill puts a word in the place of every #.
func fill(text, word string) string { return strings.ReplaceAll(text, "#", word) }

// many repeats a text, with # as the number of the round.
func many(n int, text string) string {
	var b strings.Builder
	for i := range n {
		b.WriteString(fill(text, strconv.Itoa(i)))
	}
	return b.String()
}

func checkRead(t *testing.T, text string, want api.Errno, at int) {
	t.Helper()
	s, err := marshal.Read(text)
	if e, place := plain.Told(err); e != want || place != at {
		t.Errorf("Read(%q) = %v at %d, want %v at %d", text, e, place, want, at)
	}
	if (s == nil) != (err != nil) {
		t.Errorf("Read(%q): a Spec: %v, an error: %v", text, s != nil, err)
	}
}

func checkWrong(t *testing.T, cases []wrong) {
	t.Helper()
	for _, c := range cases {
		before, behind, marked := strings.Cut(c.text, "^")
		if !marked {
			t.Errorf("no place in %q", c.text)
		}
		checkRead(t, before+behind, c.want, len(before))
	}
}

func checkRight(t *testing.T, texts ...string) {
	t.Helper()
	for _, text := range texts {
		checkRead(t, text, api.OK, 0)
	}
}

func TestExamplesOfRead(t *testing.T) {
	checkRead(t, "const A = 1; const A = 2;", api.ErrTwice, 19)
	checkRead(t, "struct S { int x; ", api.ErrSyntax, 18)
	checkRead(t, "typedef int x[0];", api.ErrRange, 14)
	checkRead(t, "struct S { S s; };", api.ErrEndless, 7)
	checkRead(t, "struct S { S *s; };", api.OK, 0)
	checkRead(t, "enum E { A = A };", api.ErrName, 13)
	checkRead(t, "typedef T x; const T = 1;", api.ErrName, 8)
	checkRead(t, "const a = 08;", api.ErrNumber, 10)
	checkRead(t, "/* x", api.ErrChar, 0)
}

func TestP3TextsOfAtMost1200Bytes(t *testing.T) {
	checkRight(t, strings.Repeat(" ", 1200), "const a = 1;"+strings.Repeat("\n", 1188))
	checkWrong(t, []wrong{
		{"^" + strings.Repeat(" ", 1201), api.ErrLong},
		{"^" + strings.Repeat("$", 1201), api.ErrLong},
		{"^" + strings.Repeat("a", 5000), api.ErrLong},
		{"^" + strings.Repeat("$", 1200), api.ErrChar},
		{strings.Repeat(" ", 1199) + "^;", api.ErrSyntax},
	})
}

func TestP3BlanksAndComments(t *testing.T) {
	checkRight(t, "", " ", "\t\n ", "/**/", "/***/", "/*/*/", "/* /* */", "/*\x80$*/ /* // */",
		"const/**/a/* * / */=/*;*/1\t;\n", "/* a */const a = 1;/* b */", "/*x*//*y*/")
	checkWrong(t, []wrong{
		{"^/* x", api.ErrChar}, {"^/*/", api.ErrChar}, {"^/* *", api.ErrChar}, {"^/", api.ErrChar},
		{"/* */ ^/*", api.ErrChar}, {"/* /* */ ^*/", api.ErrSyntax}, {"^// x\n", api.ErrChar},
		{"const a ^/* = 1;", api.ErrChar}, {"const a/**/^b = 1;", api.ErrSyntax},
		{"^\r", api.ErrChar}, {"const^\r\na = 1;", api.ErrChar}, {"^\v", api.ErrChar}, {"^\f", api.ErrChar},
		{"^\x00", api.ErrChar}, {"^\u00a0", api.ErrChar},
	})
}

func TestP3Names(t *testing.T) {
	checkRight(t, "const abcdefghijklmnop = 1;", "const z = 1;", "const Z = 1;", "const a_ = 1;", "const A0_z9 = 1;",
		"const Const = 1; const true = 1; const constant = 1; const int32 = 1;")
	checkWrong(t, []wrong{
		{"const ^abcdefghijklmnopq = 1;", api.ErrName},
		{"const ^" + strings.Repeat("x", 1000) + " = 1;", api.ErrName},
		{"^abcdefghijklmnopq", api.ErrName},
		{"const a = ^abcdefghijklmnopq;", api.ErrName},
		{"const a ^abcdefghijklmnopq", api.ErrName},
		{"const ^_a = 1;", api.ErrChar}, {"const a^$ = 1;", api.ErrChar}, {"const a^\x80 = 1;", api.ErrChar},
		{"const ^\u00e4 = 1;", api.ErrChar}, {"const a^-b = 1;", api.ErrNumber}, {"const a^.b = 1;", api.ErrChar},
	})
	for _, k := range strings.Fields("const typedef enum struct union switch case default void int unsigned hyper bool opaque string program version TRUE FALSE") {
		checkWrong(t, []wrong{{"const ^" + k + " = 1;", api.ErrSyntax}})
	}
}

func TestP3Numbers(t *testing.T) {
	for _, n := range []string{"0", "-0", "7", "-1", "10", "4294967295", "-2147483648", "0x0", "0xf", "0xFfFfFfFf", "0x00000001", "0xabcdefAB"} {
		checkRight(t, "const a = "+n+";")
	}
	for _, n := range []string{
		"08", "00", "-00", "-01", "01", "-", "- 1", "--1", "-a", "-_", "1x", "1_0", "1a", "9_", "0x", "0X1", "0xg", "0x1g", "0x_1",
		"-0x1", "0x000000001", "0x100000000", "4294967296", "-2147483649", "9223372036854775808", "-9223372036854775809",
		"18446744073709551616", "18446744073709551617", strings.Repeat("9", 300), "0b1", "0o7", "1e3",
	} {
		checkWrong(t, []wrong{{"const a = ^" + n + ";", api.ErrNumber}})
	}
	checkWrong(t, []wrong{{"const a = 1^-2;", api.ErrSyntax}, {"const a = ^+1;", api.ErrChar}, {"^08", api.ErrNumber}, {"^8", api.ErrSyntax}})
}

func TestP3TheFirstWrongWordCounts(t *testing.T) {
	checkWrong(t, []wrong{
		{"typedef int a; typedef hyper ^a[$];", api.ErrTwice}, {"typedef int x[^0$", api.ErrRange}, {"const a = ^b$", api.ErrName},
		{"enum E { A = 1, B = ^1$", api.ErrTwice}, {"union U switch (^E$", api.ErrName}, {"struct S { int a; int ^a$", api.ErrTwice},
		{"const a ^1 $", api.ErrSyntax}, {"const a ^$ 1", api.ErrChar}, {"typedef ^; const a = 08;", api.ErrSyntax},
		{"typedef T x; const a = ^08;", api.ErrNumber}, {"struct S { S s; }; ^;", api.ErrSyntax},
		{"program P { version V { int f(int) = ^-1$", api.ErrRange}, {"program P { version V { int f(int) = 1; } = ^-1$", api.ErrRange},
	})
}
