package marshal_test

import (
	"errors"
	"math"
	"slices"
	"strings"
	"sync"
	"testing"
	"unsafe"

	"marshal/api"
	"marshal/marshal"
	"marshal/plain"
	"marshal/tree"
)

// checkBytesModel holds Decode and Leaves against the model; what is decoded must be encoded to the same bytes.
func checkBytesModel(t *testing.T, s *marshal.Spec, types map[string]tree.Def, name string, b string, lim api.Limits) api.Errno {
	t.Helper()
	v, err := s.Decode(name, b, lim)
	e, at := plain.Told(err)
	want, wantE, wantAt := modelDecode(types, name, b, lim)
	if !slices.Equal(v, want) || (v == nil) != (err != nil) || e != wantE || at != wantAt {
		t.Fatalf("Decode(%q, %q, %v) = %v, %v at %d, want %v, %v at %d", name, b, lim, v, e, at, want, wantE, wantAt)
	}
	if got := leaves(s.Leaves(name, b, lim)); !slices.Equal(got, textsOf(want)) {
		t.Fatalf("Leaves(%q, %q, %v) goes through %v, want the texts of %v", name, b, lim, got, want)
	}
	if err == nil {
		if again, err := s.Encode(name, v, lim); err != nil || again != b {
			t.Fatalf("%q: %q is decoded as %v, and that encoded as %q, %v", name, b, v, again, err)
		}
	}
	return e
}

// spoilBytes changes bytes, of which there must be some, a little.
func spoilBytes(throw func(n int) int, b string) string {
	words := []int64{0, 1, -1, 2, 3, 4, 7, -3, math.MinInt32, math.MaxInt32, 1 << 24}
	i := throw(len(b))
	word := i / 4 * 4
	behind := min(word+4, len(b))
	switch throw(6) {
	case 0:
		return b[:word] + words32(words[throw(len(words))]) + b[behind:]
	case 1:
		return b[:i] + string([]byte{byte(throw(256))}) + b[i+1:]
	case 2:
		return b[:i]
	case 3:
		return b[:word] + b[behind:]
	case 4:
		return b[:word] + words32(words[throw(len(words))]) + b[word:]
	}
	return b + "\x00abc"[:throw(5)]
}

// someBytes grows a value and encodes it; some values are none, and are thrown again.
func someBytes(s *marshal.Spec, types map[string]tree.Def, throw func(n int) int) (name string, v []api.Node, b string) {
	for {
		name = kindNames[throw(len(kindNames))]
		g := &grower{types: types, throw: throw}
		g.named(name)
		if b, err := s.Encode(name, g.v, wide); err == nil {
			return name, g.v, b
		}
	}
}

func TestP9AsTheModelSays(t *testing.T) {
	s, types, throw := mustRead(t, kinds), modelTypes(kinds), dice()
	seen := map[api.Errno]int{}
	for range 20000 {
		name, v, b := someBytes(s, types, throw)
		seen[checkBytesModel(t, s, types, name, b, wide)]++
		narrow := limits(throw(9), max(0, len(v)+1-throw(4)), max(0, len(b)+2-throw(4)))
		seen[checkBytesModel(t, s, types, name, b, narrow)]++
		spoilt := spoilBytes(throw, b)
		seen[checkBytesModel(t, s, types, name, spoilt, wide)]++
		seen[checkBytesModel(t, s, types, name, spoilt, narrow)]++
	}
	for _, e := range []api.Errno{api.OK, api.ErrDepth, api.ErrSize, api.ErrFuel, api.ErrShort, api.ErrPad, api.ErrWrong, api.ErrCount, api.ErrTail} {
		if seen[e] < 500 {
			t.Errorf("the bytes were too tame: %v came %d times", e, seen[e])
		}
	}
}

// Every value that is encoded is decoded to the same, but for where its texts stand.
func TestP9DecodeUndoesEncode(t *testing.T) {
	s, types, throw := mustRead(t, kinds), modelTypes(kinds), dice()
	for range 10000 {
		name, v, b := someBytes(s, types, throw)
		got, err := s.Decode(name, b, wide)
		if err != nil {
			t.Fatalf("Decode(%q, %q): %v", name, b, err)
		}
		for i, n := range got {
			if n.Kind == api.KText && b[n.At:n.At+len(n.S)] != n.S {
				t.Fatalf("Decode(%q, %q): %v does not stand there", name, b, n)
			}
			got[i].At = 0
		}
		if !slices.Equal(got, v) {
			t.Fatalf("%q: %v is encoded as %q, and that decoded as %v", name, v, b, got)
		}
	}
}

func TestP1DecodeAnswersEverything(t *testing.T) {
	s, types, throw := mustRead(t, kinds), modelTypes(kinds), dice()
	numbers := []int{0, 1, -1, 2, 3, 4, 5, 8, 64, 65, 10000, 10001, 100000, 100001, math.MinInt, math.MaxInt, math.MaxUint32}
	some := func() int { return numbers[throw(len(numbers))] }
	names := append([]string{"", "K", "A", "PR", "VE", "f", "none", "\x00"}, kindNames...)
	for range 30000 {
		var b strings.Builder
		for range throw(12) {
			b.WriteString(words32(int64([]int{0, 1, 2, 3, 7, -3, -1, math.MinInt32, math.MaxInt32}[throw(9)])))
		}
		for range throw(4) {
			b.WriteByte(byte(throw(256)))
		}
		lim := wide
		if throw(2) == 0 {
			lim = limits(some(), some(), some())
		}
		checkBytesModel(t, s, types, names[throw(len(names))], b.String(), lim)
	}
}

func FuzzDecode(f *testing.F) {
	f.Add("T", words32(0, 0, -3, 0, 1, 0, 2), 64, 10000, 100000)
	f.Add("D", words32(0, math.MaxInt32, 1, 2, 3, 4)+"abc\x00", 9, 99, 999)
	f.Add("D2", words32(1, 3)+"abc\x00"+words32(1, 0, 2)+"ab\x00\x00", 9, 99, 999)
	s, err := marshal.Read(kinds)
	if err != nil {
		f.Fatal(err)
	}
	types := modelTypes(kinds)
	f.Fuzz(func(t *testing.T, name string, b string, depth, fuel, size int) {
		checkBytesModel(t, s, types, name, b, limits(depth, fuel, size))
		checkBytesModel(t, s, types, name, b, wide)
	})
}

// A word may say that there are more bytes or values than there is memory for: that must not be taken at its word.
func TestP1DecodeOfHugeCountsEnds(t *testing.T) {
	checkDecode(t, "typedef int L<>; typedef L M<>; typedef opaque O<>; typedef O P<>;",
		fails("L", words32(-1), api.ErrShort, 4), fails("M", words32(-1, -1), api.ErrShort, 8), fails("O", words32(-1), api.ErrShort, 4), fails("P", words32(-1, -1), api.ErrShort, 8))
	const deep = "typedef int A[1000]; typedef A B[1000]; typedef B C[1000]; typedef C D[1000];"
	checkDecode(t, deep, fails("D", "", api.ErrShort, 0), fails("D", strings.Repeat("x", 100000), api.ErrFuel, 39948))
}

func TestP1DecodeErrorsAreAskedByIsAndAs(t *testing.T) {
	s := mustRead(t, example)
	var f *api.Fault
	v, err := s.Decode("P", words32(5), wide)
	if v != nil || !errors.Is(err, api.ErrWrong) || errors.Is(err, api.ErrShort) || !errors.As(err, &f) || *f != (api.Fault{E: api.ErrWrong, At: 0}) {
		t.Errorf("Decode = %v, %v", v, err)
	}
	*f = api.Fault{E: api.ErrFull, At: 99}
	checkDecode(t, example, fails("P", words32(5), api.ErrWrong, 0))
	v, err = s.Decode("X", "", wide)
	if v != nil || !errors.Is(err, api.ErrNone) || errors.As(err, &f) {
		t.Errorf("Decode = %v, %v", v, err)
	}
	v, err = s.Decode("P", "", limits(0, 0, -1))
	if v != nil || !errors.Is(err, api.ErrLimits) || errors.As(err, &f) {
		t.Errorf("Decode = %v, %v", v, err)
	}
}

func TestP2DecodeKeepsNothing(t *testing.T) {
	s := mustRead(t, example)
	given := []byte(words32(1, 0, 3) + "abc\x00")
	b := unsafe.String(&given[0], len(given))
	v, err := s.Decode("L", b, wide)
	again, _ := s.Decode("L", b, wide)
	all := s.Leaves("L", b, wide)
	if err != nil || string(given) != words32(1, 0, 3)+"abc\x00" {
		t.Fatalf("Decode: %v; what was handed in reads %q", err, given)
	}
	for i := range given {
		given[i] = 'x'
	}
	want := value(list(1), list(2), num(0), textAt("abc", 12))
	if !slices.Equal(v, want) || !slices.Equal(leaves(all), want[3:]) || !slices.Equal(leaves(all), want[3:]) {
		t.Errorf("what came out has changed with what was handed in: %v, %v", v, leaves(all))
	}
	clear(v)
	if !slices.Equal(again, want) {
		t.Errorf("one value has changed with another: %v", again)
	}
}

func TestP2DecodeHangsOnNothingElse(t *testing.T) {
	s, types := mustRead(t, kinds), modelTypes(kinds)
	before := s.Print()
	shared := s.Leaves("P", words32(2)+"ab\x00\x00", wide)
	var wait sync.WaitGroup
	for range 8 {
		wait.Go(func() {
			throw := dice()
			for range 300 {
				name, _, b := someBytes(s, types, throw)
				b = spoilBytes(throw, b)
				v, err := s.Decode(name, b, wide)
				e, at := plain.Told(err)
				if want, wantE, wantAt := modelDecode(types, name, b, wide); !slices.Equal(v, want) || e != wantE || at != wantAt {
					t.Errorf("Decode(%q, %q) = %v, %v at %d", name, b, v, e, at)
				}
				if got := leaves(shared); !slices.Equal(got, value(textAt("ab", 4))) {
					t.Errorf("Leaves goes through %v", got)
				}
			}
		})
	}
	wait.Wait()
	if s.Print() != before {
		t.Error("Decode has changed what Print writes")
	}
}
