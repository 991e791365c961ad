package marshal_test

import (
	"errors"
	"sync"
	"testing"
	"unsafe"

	"marshal/api"
	"marshal/marshal"
	"marshal/plain"
)

// checkSound makes sure of what holds of every Read and Print (P1, P2).
func checkSound(t *testing.T, text string) {
	t.Helper()
	s, err := marshal.Read(text)
	if (s == nil) != (err != nil) {
		t.Fatalf("Read(%q): a Spec: %v, an error: %v", text, s != nil, err)
	}
	e, at := plain.Told(err)
	again, err2 := marshal.Read(text)
	if e2, at2 := plain.Told(err2); e2 != e || at2 != at {
		t.Fatalf("Read(%q) = %v, and then %v", text, err, err2)
	}
	if s == nil {
		if e < api.ErrLong || e > api.ErrEndless || at < 0 || at > len(text) {
			t.Fatalf("Read(%q) = %v", text, err)
		}
		return
	}
	if s.Print() != again.Print() || s.Print() != s.Print() {
		t.Fatalf("Print of %q is not always the same", text)
	}
}

// dice gives numbers that look thrown, the same ones in every run.
func dice() func(n int) int {
	state := uint32(1)
	return func(n int) int {
		state = state*1664525 + 1013904223
		return int(state>>8) % n
	}
}

func TestP1EveryTextIsAnswered(t *testing.T) {
	bits := []string{"", " ", "$", "/*", "*/", "08", "0x1F", "4294967295", "-1", "TRUE", "a", "A", "E", "S", "abcdefghijklmnopq", "{", "}", "(", ")", "[", "]", "<", ">", "*", ",", ";", ":", "=",
		"const", "typedef", "enum", "struct", "union", "switch", "case", "default", "void", "int", "unsigned", "hyper", "bool", "opaque", "string", "program", "version", "\x00", "\xff", "const N = 1;", "typedef S N[2];"}
	throw := dice()
	at := places(whole)
	for range 20000 {
		text := whole
		for range 1 + throw(3) {
			from := min(at[throw(len(at))], len(text))
			to := min(from+throw(12), len(text))
			text = text[:from] + " " + bits[throw(len(bits))] + " " + text[to:]
		}
		checkSound(t, text)
	}
	for range 20000 {
		text := ""
		for range throw(40) {
			text += bits[throw(len(bits))] + " "
		}
		checkSound(t, text)
	}
}

func FuzzRead(f *testing.F) {
	for _, text := range []string{"", whole, whole[:100], "struct S { S s; };", "typedef T x;", "const a = 08;", "/* x", "\x80"} {
		f.Add(text)
	}
	f.Fuzz(checkSound)
}

func TestP1ErrorsAreAskedByIsAndAs(t *testing.T) {
	_, err := marshal.Read("const a = 1; const a = 2;")
	var f *api.Fault
	if !errors.Is(err, api.ErrTwice) || errors.Is(err, api.ErrName) || !errors.As(err, &f) || f.E != api.ErrTwice || f.At != 19 {
		t.Errorf("the error is %v", err)
	}
}

func TestP2TheTextIsNotKept(t *testing.T) {
	bytes := []byte(whole)
	s, err := marshal.Read(unsafe.String(&bytes[0], len(bytes)))
	if err != nil {
		t.Fatal(err)
	}
	want := s.Print()
	if string(bytes) != whole {
		t.Error("the text was written into")
	}
	for i := range bytes {
		bytes[i] = '$'
	}
	if got := s.Print(); got != want {
		t.Errorf("what was read has changed with the text: %q", got)
	}
}

func TestP2ErrorsAreTheCallers(t *testing.T) {
	for range 2 {
		_, err := marshal.Read("x")
		var f *api.Fault
		if !errors.As(err, &f) || *f != (api.Fault{E: api.ErrSyntax, At: 0}) {
			t.Fatalf("the error is %v", err)
		}
		*f = api.Fault{E: api.ErrFull, At: 99}
	}
}

func TestP2ReadsHangOnNothingElse(t *testing.T) {
	var wait sync.WaitGroup
	for range 8 {
		wait.Go(func() {
			for range 20 {
				s, err := marshal.Read(whole)
				if err != nil {
					t.Errorf("Read: %v", err)
					return
				}
				checkPrint(t, s.Print(), s.Print())
				checkRead(t, "const a = a;", api.ErrName, 10)
			}
		})
	}
	wait.Wait()
}
