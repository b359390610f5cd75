// Package mv: a store of versions: see DOC.md.
package mv

import (
	"errors"
	"strconv"
)

// Step of a program: Kind 1 begin, 2 get, 3 put, 4 delete, 5 commit, 6 abort.
type Step struct {
	Kind, Key int
	Value     string
}

// The kinds of steps. The one that takes a key's value away is not called
// delete, since that is a word of the language.
const (
	begin = iota + 1
	get
	put
	remove
	commit
	abort
)

// Event is a step that has been answered.
type Event struct {
	Client, Step, Outcome int
	Value                 string
	Stamp                 int
}

// The outcomes of steps.
const (
	done = iota + 1
	found
	notFound
	conflict
	noSite
	atLimit
	leftOut
)

// What Pick answers.
const (
	atEnd = iota - 1
	heldUp
	stepped
)

// Version of a key.
type Version struct {
	Stamp int
	Gone  bool
	Value string
}

// Mark on a key.
type Mark struct{ Key, Client, Stamp int }

var (
	ErrShape   = errors.New("no such store")
	ErrProgram = errors.New("no program")
	ErrMany    = errors.New("too many clients")
	ErrClient  = errors.New("no such client")
	ErrStopped = errors.New("the store has been stopped")
)

// CallError is an error of a method.
type CallError struct {
	Call string
	At   int
	Err  error
}

// Error answers for a nil error, and for one of nothing, too: whoever holds
// one may have made it himself.
func (e *CallError) Error() string {
	if e == nil || e.Err == nil {
		return "no error"
	}
	return e.Call + " " + strconv.Itoa(e.At) + ": " + e.Err.Error()
}

func (e *CallError) Unwrap() error {
	if e == nil {
		return nil
	}
	return e.Err
}
