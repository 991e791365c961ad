package words

import (
	"errors"
	"slices"
	"strings"
	"testing"

	"marshal/api"
	"marshal/fault"
)

// all gives the words of a text, and how looking at them ended.
func all(text string) (got []Word, err error) {
	defer func() {
		if thrown := recover(); thrown != nil {
			err = fault.Caught(thrown)
		}
	}()
	s := New(text)
	for w := s.Next(); w.Kind != End; w = s.Next() {
		got = append(got, w)
	}
	return got, nil
}

func TestWordsHaveKindsTextsAndPlaces(t *testing.T) {
	got, err := all("const a_1=-0x_;")
	if err == nil || len(got) != 3 {
		t.Errorf("a wrong number must end the words: %v, %v", got, err)
	}
	got, err = all("\tTRUE Z9_ 0x1F -7\n*;/**/true")
	want := []Word{
		{Keyword, "TRUE", 0, 1}, {Name, "Z9_", 0, 6}, {Number, "0x1F", 31, 10}, {Number, "-7", -7, 15},
		{Sign, "*", 0, 18}, {Sign, ";", 0, 19}, {Name, "true", 0, 24},
	}
	if err != nil || !slices.Equal(got, want) {
		t.Errorf("got %v, %v", got, err)
	}
}

func TestKeywordsAndSignsAreKnown(t *testing.T) {
	keywords := strings.Fields("const typedef enum struct union switch case default void int unsigned hyper bool opaque string program version TRUE FALSE")
	for _, k := range keywords {
		got, err := all(k + k + " " + k)
		if err != nil || len(got) != 2 || got[0].Kind != Name || got[1].Kind != Keyword {
			t.Errorf("%s: got %v", k, got)
		}
	}
	got, err := all("{}()[]<>*,;:=")
	if err != nil || len(got) != 13 {
		t.Errorf("signs: got %v, %v", got, err)
	}
}

func TestEveryByteBeginsAWordOrIsWrong(t *testing.T) {
	const begins = "{}()[]<>*,;:= \t\n0123456789abcdefghijklmnopqrstuvwxyzABCDEFGHIJKLMNOPQRSTUVWXYZ"
	for c := range 256 {
		b := string([]byte{byte(c)})
		_, err := all(b)
		want := error(api.ErrChar)
		if b == "-" {
			want = api.ErrNumber
		}
		if strings.Contains(begins, b) {
			want = nil
		}
		if !errors.Is(err, want) {
			t.Errorf("byte %d: got %v, want %v", c, err, want)
		}
	}
}

func TestPeekLeavesTheWordAndLooksNoFurther(t *testing.T) {
	s := New("a $")
	if s.Peek() != s.Peek() || s.Peek() != s.Next() {
		t.Error("Peek took the word, or changed it")
	}
	s = New(" ")
	if s.Next() != (Word{At: 1}) || s.Next() != (Word{At: 1}) {
		t.Error("behind the last word there is always the end")
	}
}
