// Package setups: what can be wrong with what is to be laid out.
package setups

import (
	"errors"

	"caret/api"
)

// Fault is what is wrong with a setup. One number may stand for several things: which of them it is, the cause tells, if there is one.
type Fault struct {
	Number api.Errno
	Cause  error
}

func (f *Fault) Error() string {
	if f.Cause == nil {
		return meaning(f.Number)
	}
	return meaning(f.Number) + ": " + f.Cause.Error()
}

func (f *Fault) Unwrap() error { return f.Cause }

func meaning(number api.Errno) string {
	switch number {
	case api.ErrLong:
		return "the text is too long"
	case api.ErrBase:
		return "there is no such base direction"
	case api.ErrWidths:
		return "the widths do not fit"
	case api.ErrBreaks:
		return "the breaks do not fit"
	case api.ErrBlock:
		return "a paragraph ends ahead of the last cluster"
	}
	return "nothing is wrong"
}

// Number tells the number of what went wrong; OK, if nothing did.
func Number(err error) api.Errno {
	var fault *Fault
	if errors.As(err, &fault) {
		return fault.Number
	}
	return api.OK
}
