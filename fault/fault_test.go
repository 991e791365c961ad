package fault

import (
	"errors"
	"testing"

	"marshal/api"
)

func TestCaughtGivesTheFaultThatWasThrown(t *testing.T) {
	err := Caught(New(api.ErrTwice, 7))
	var f *api.Fault
	if !errors.Is(err, api.ErrTwice) || !errors.As(err, &f) || f.E != api.ErrTwice || f.At != 7 {
		t.Errorf("Caught gave %v", err)
	}
}

func TestCaughtGivesAnErrorForEveryOtherPanic(t *testing.T) {
	for _, thrown := range []any{"text", 1, errors.New("other"), api.ErrName} {
		var f *api.Fault
		if err := Caught(thrown); err == nil || errors.As(err, &f) {
			t.Errorf("Caught(%v) gave %v", thrown, err)
		}
	}
}
