package book

import (
	"errors"
	"strconv"

	"cubit/api"
)

// errLine: of a line; it goes ahead of what is wrong with the numbers in it. errSize: of a whole text, so it has no place.
var (
	errLine = errors.New("a line that can not be")
	errSize = errors.New("more than a book may have")
)

// refused: what a number, an entry or a ledger is refused with.
type refused struct {
	why api.Errno
}

func (r refused) Error() string { return "refused: " + strconv.Itoa(int(r.why)) }

// placed: what is wrong with one of several things, and how many stand ahead of it.
type placed struct {
	by error
	at int
}

func (p placed) Error() string { return p.by.Error() + ", behind " + strconv.Itoa(p.at) }
func (p placed) Unwrap() error { return p.by }

// told: an error as callers are told it: its number, and its place.
func told(err error) (api.Errno, int) {
	var where placed
	if !errors.As(err, &where) {
		return number(err), 0
	}
	return number(err), where.at
}

func number(err error) api.Errno {
	var r refused
	switch {
	case errors.Is(err, errLine):
		return api.ErrLine
	case errors.Is(err, errSize):
		return api.ErrSize
	case errors.As(err, &r):
		return r.why
	}
	return api.OK
}
