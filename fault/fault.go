// Package fault: what is wrong is thrown by panic where it is found, and becomes an error again where a call ends.
package fault

import (
	"errors"

	"marshal/api"
)

// errInner stands for a panic that nobody threw on purpose: a call may not panic, and no place in what it was given is to blame.
var errInner = errors.New("marshal: a fault of the program itself")

// New makes what is to be thrown.
func New(e api.Errno, at int) *api.Fault { return &api.Fault{E: e, At: at} }

// Caught makes an error of what was thrown.
func Caught(thrown any) error {
	switch f := thrown.(type) {
	case *api.Fault:
		return f
	}
	return errInner
}
