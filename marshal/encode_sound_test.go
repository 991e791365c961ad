package marshal_test

import (
	"errors"
	"math"
	"slices"
	"sync"
	"testing"
	"unsafe"

	"marshal/api"
	"marshal/marshal"
	"marshal/plain"
	"marshal/tree"
)

// kinds is a text with every kind of type, and names of names, ahead and behind.
const kinds = "const K = 3; enum E { A = 0, B = -3, C = 7 }; enum F { X = 2147483647 }; typedef int I; typedef unsigned N; typedef hyper H; typedef unsigned hyper W; typedef bool Q; typedef opaque O[K]; typedef opaque P<5>; typedef string S<>; typedef I L<3>; typedef L M[2]; typedef T *R; typedef E G; typedef G J; " +
	"struct T { J j; R r; U u; H h[2]; }; union U switch (E k) { case A: T *t; case B: void; default: V v; }; union V switch (unsigned k) { case 4294967295: case 1: N n<2>; default: opaque o[1]; }; union Y switch (bool k) { case TRUE: S s; }; union Z switch (int k) { case -1: W w; case 0: string s<2>; default: void; }; " +
	"struct D { E e; F f; I i; N n; H h; W w; Q q; O o; P p; S s; M m; D2 d; }; struct D2 { Y y; Z z<2>; U *u; opaque o<>; bool b[1]; V v; D2 *d; }; program PR { version VE { T f(D) = 1; } = 1; } = 1;"

var kindNames = []string{"E", "F", "I", "N", "H", "W", "Q", "O", "P", "S", "L", "M", "R", "G", "J", "T", "U", "V", "Y", "Z", "D", "D2"}

// checkModel holds Encode against the model; what is handed in must stay as it is.
func checkModel(t *testing.T, s *marshal.Spec, types map[string]tree.Def, name string, v []api.Node, lim api.Limits) api.Errno {
	t.Helper()
	before := slices.Clone(v)
	b, err := s.Encode(name, v, lim)
	e, at := plain.Told(err)
	if want, wantE, wantAt := modelEncode(types, name, before, lim); b != want || e != wantE || at != wantAt {
		t.Fatalf("Encode(%q, %v, %v) = %q, %v at %d, want %q, %v at %d", name, v, lim, b, e, at, want, wantE, wantAt)
	}
	if !slices.Equal(v, before) {
		t.Fatalf("Encode(%q, %v, %v) has written into the list: %v", name, before, lim, v)
	}
	return e
}

// spoil changes a value a little.
func spoil(throw func(n int) int, v []api.Node) []api.Node {
	numbers := []int64{0, 1, -1, 2, 7, -3, math.MinInt32, math.MaxInt32, math.MinInt32 - 1, math.MaxInt32 + 1, math.MaxUint32, math.MaxUint32 + 1, math.MinInt64, math.MaxInt64}
	v = slices.Clone(v)
	i := throw(len(v))
	switch throw(7) {
	case 0:
		v[i].Kind = throw(6)
	case 1:
		v[i].N = numbers[throw(len(numbers))]
	case 2:
		v[i].Len = int(numbers[throw(len(numbers))])
	case 3:
		v[i].S += "abcd"[:throw(5)]
	case 4:
		v = slices.Delete(v, i, i+1)
	case 5:
		v = slices.Insert(v, i, v[throw(len(v))])
	case 6:
		v = v[:i]
	}
	return v
}

func TestP8AsTheModelSays(t *testing.T) {
	s, types, throw := mustRead(t, kinds), modelTypes(kinds), dice()
	seen := map[api.Errno]int{}
	for range 20000 {
		name := kindNames[throw(len(kindNames))]
		g := &grower{types: types, throw: throw}
		g.named(name)
		seen[checkModel(t, s, types, name, g.v, wide)]++
		b, _ := s.Encode(name, g.v, wide)
		narrow := limits(throw(9), max(0, len(g.v)+1-throw(4)), max(0, len(b)+2-throw(12)))
		seen[checkModel(t, s, types, name, g.v, narrow)]++
		v := spoil(throw, g.v)
		seen[checkModel(t, s, types, name, v, wide)]++
		seen[checkModel(t, s, types, name, v, narrow)]++
	}
	for _, e := range []api.Errno{api.OK, api.ErrType, api.ErrDepth, api.ErrFuel, api.ErrSize} {
		if seen[e] < 1000 {
			t.Errorf("the values were too tame: %v came %d times", e, seen[e])
		}
	}
}

func TestP1EncodeAnswersEverything(t *testing.T) {
	s, types, throw := mustRead(t, kinds), modelTypes(kinds), dice()
	numbers := []int{0, 1, -1, 2, 3, 4, 5, 8, 64, 65, 10000, 10001, 100000, 100001, math.MinInt, math.MaxInt, math.MaxUint32}
	some := func() int { return numbers[throw(len(numbers))] }
	names := append([]string{"", "K", "A", "PR", "VE", "f", "none", "\x00"}, kindNames...)
	for range 20000 {
		var v []api.Node
		for range throw(6) {
			v = append(v, api.Node{Kind: throw(7) - 1, N: int64(some()), S: "abcdefgh"[:throw(9)], At: some(), Len: some()})
		}
		lim := wide
		if throw(2) == 0 {
			lim = limits(some(), some(), some())
		}
		checkModel(t, s, types, names[throw(len(names))], v, lim)
	}
}

func FuzzEncode(f *testing.F) {
	f.Add("T", []byte{3, 4, 1, 0, 4, 0}, 64, 10000, 100000)
	f.Add("D", []byte{3, 12, 1, 0}, 9, 99, 999)
	s, err := marshal.Read(kinds)
	if err != nil {
		f.Fatal(err)
	}
	types := modelTypes(kinds)
	f.Fuzz(func(t *testing.T, name string, nodes []byte, depth, fuel, size int) {
		var v []api.Node
		for i := 0; i+1 < len(nodes); i += 2 {
			n := int(int8(nodes[i+1]))
			v = append(v, api.Node{Kind: int(nodes[i]) % 6, N: int64(n), Len: n & 15, S: string(nodes[i : i+2])})
		}
		checkModel(t, s, types, name, v, limits(depth, fuel, size))
	})
}

// A list may say that it has more values than there is memory for: that must not be taken at its word.
func TestP1EncodeOfHugeListsEnds(t *testing.T) {
	checkEncode(t, "typedef int L<>; typedef L M<>;", bad("L", 1, list(math.MaxUint32)), bad("M", 2, list(math.MaxUint32), list(math.MaxUint32)))
	checkEncode(t, "typedef int A[1000]; typedef A B[1000]; typedef B C[1000]; typedef C D[1000];", bad("D", 4, list(1000), list(1000), list(1000), list(1000)))
}

func TestP1EncodeErrorsAreAskedByIsAndAs(t *testing.T) {
	s := mustRead(t, example)
	var f *api.Fault
	_, err := s.Encode("P", value(list(2), num(5)), wide)
	if !errors.Is(err, api.ErrType) || errors.Is(err, api.ErrSize) || !errors.As(err, &f) || *f != (api.Fault{E: api.ErrType, At: 1}) {
		t.Errorf("the error is %v", err)
	}
	*f = api.Fault{E: api.ErrFull, At: 99}
	checkEncode(t, example, bad("P", 1, list(2), num(5)))
	_, err = s.Encode("X", nil, wide)
	if !errors.Is(err, api.ErrNone) || errors.As(err, &f) {
		t.Errorf("the error is %v", err)
	}
	_, err = s.Encode("P", nil, limits(65, 0, 0))
	if !errors.Is(err, api.ErrLimits) || errors.As(err, &f) {
		t.Errorf("the error is %v", err)
	}
}

func TestP2EncodeKeepsNothing(t *testing.T) {
	s := mustRead(t, example)
	letters := []byte("abc")
	v := value(list(2), num(0), text(unsafe.String(&letters[0], 3)), num(77), num(88))
	before := slices.Clone(v)
	b, err := s.Encode("P", v[:3], wide)
	if err != nil || !slices.Equal(v, before) || string(letters) != "abc" {
		t.Fatalf("Encode: %v; what was handed in reads %v", err, v)
	}
	copy(letters, "xyz")
	clear(v)
	if b != words32(0, 3)+"abc\x00" {
		t.Errorf("the bytes have changed with what was handed in: %q", b)
	}
}

func TestP2EncodeHangsOnNothingElse(t *testing.T) {
	s, types := mustRead(t, kinds), modelTypes(kinds)
	before := s.Print()
	var wait sync.WaitGroup
	for range 8 {
		wait.Go(func() {
			throw := dice()
			for range 300 {
				name := kindNames[throw(len(kindNames))]
				g := &grower{types: types, throw: throw}
				g.named(name)
				v := spoil(throw, g.v)
				b, err := s.Encode(name, v, wide)
				e, at := plain.Told(err)
				if want, wantE, wantAt := modelEncode(types, name, v, wide); b != want || e != wantE || at != wantAt {
					t.Errorf("Encode(%q, %v) = %q, %v at %d", name, v, b, e, at)
				}
			}
		})
	}
	wait.Wait()
	checkPrint(t, kinds, before)
	if s.Print() != before {
		t.Error("Encode has changed what Print writes")
	}
}
