package rules

import (
	"errors"
	"strconv"
)

// What can be wrong with a text.
var (
	ErrText  = errors.New("the text is no rules")
	ErrLimit = errors.New("there is more than there may be")
)

// Fault tells where a text is wrong, and wraps what is wrong there.
type Fault struct {
	At   int // how many bytes stand ahead of it
	What error
}

// Error tells place and reason in words.
func (f *Fault) Error() string {
	return "byte " + strconv.Itoa(f.At) + ": " + f.What.Error()
}

// Unwrap lets errors.Is see the reason.
func (f *Fault) Unwrap() error { return f.What }
