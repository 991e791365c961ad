package parse

import (
	"math"

	"marshal/api"
	"marshal/fault"
	"marshal/tree"
	"marshal/words"
)

const (
	lowest     = math.MinInt32
	highestInt = math.MaxInt32
	highest    = math.MaxUint32
)

// room makes sure that there may be one more.
func room(have, most, at int) {
	if have >= most {
		panic(fault.New(api.ErrFull, at))
	}
}

// take stores what may not come twice.
func take[K comparable, V any](kept map[K]V, key K, value V, at int) {
	if _, ok := kept[key]; ok {
		panic(fault.New(api.ErrTwice, at))
	}
	kept[key] = value
}

// define takes a name for the whole text; nothing can be meant by it yet.
func (r *reader) define(w words.Word) { take(r.names, w.Text, nil, w.At) }

// among gives what takes names that only have to differ among themselves.
func among() func(w words.Word) {
	places := map[string]int{}
	return func(w words.Word) { take(places, w.Text, w.At, w.At) }
}

// within gives what tells whether a number is in a range.
func within(low, high int64) func(n int64) bool {
	return func(n int64) bool { return low <= n && n <= high }
}

// sees tells whether the next word is this keyword or sign.
func (r *reader) sees(text string) bool { return r.words.Peek().Text == text }

// accept takes the next word, if it is this one.
func (r *reader) accept(text string) bool {
	if !r.sees(text) {
		return false
	}
	r.words.Next()
	return true
}

// expect takes the next word, which must be this one.
func (r *reader) expect(text string) words.Word {
	w := r.words.Next()
	if w.Text != text {
		panic(fault.New(api.ErrSyntax, w.At))
	}
	return w
}

// name takes a name and claims it.
func (r *reader) name(claim func(w words.Word)) tree.Name {
	w := r.words.Next()
	if w.Kind != words.Name {
		panic(fault.New(api.ErrSyntax, w.At))
	}
	claim(w)
	return titled(w)
}

func titled(w words.Word) tree.Name { return tree.Name{Text: w.Text, At: w.At} }

// block reads, between braces, once or more what one reads, and at most so often. The word ahead of one too many is full whatever it is, so that is looked at ahead of one.
func (r *reader) block(most int, one func()) {
	r.expect("{")
	for have := 0; have == 0 || !r.accept("}"); have++ {
		room(have, most, r.words.Peek().At)
		one()
	}
}

// value takes a VALUE that fits, and gives its number and its place.
func (r *reader) value(fits func(n int64) bool) (int64, int) {
	w := r.words.Next()
	n := r.meaning(w)
	if !fits(n) {
		panic(fault.New(api.ErrRange, w.At))
	}
	return n, w.At
}

// number takes a VALUE that fits and is none of the numbers before.
func (r *reader) number(before map[int64]int, fits func(n int64) bool) int64 {
	n, at := r.value(fits)
	take(before, n, at, at)
	return n
}

// meaning gives the number that a word stands for.
func (r *reader) meaning(w words.Word) int64 {
	switch {
	case w.Kind == words.Number:
		return w.N
	case w.Kind == words.Name:
		return r.constantNamed(w)
	case w.Text == "TRUE":
		return 1
	case w.Text == "FALSE":
		return 0
	}
	panic(fault.New(api.ErrSyntax, w.At))
}

func (r *reader) constantNamed(w words.Word) int64 {
	switch d := r.names[w.Text].(type) {
	case *tree.Const:
		return d.Value
	}
	panic(fault.New(api.ErrName, w.At))
}
