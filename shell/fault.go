package shell

import (
	"errors"
	"strconv"
	"strings"

	"cubit/api"
)

// What the shell itself finds wrong.
var (
	errNil     = errors.New("no shell")
	errLong    = errors.New("more than a line, or a text, may have")
	errEnd     = errors.New("the end of a line within a line")
	errCommand = errors.New("no command")
	errWords   = errors.New("too few words, or too many")
	errNumber  = errors.New("a word that is no number")
	errName    = errors.New("no such variable")
	errFull    = errors.New("no room")
)

// refused: what a layer refuses a thing with.
type refused struct {
	why api.Errno
}

func (r refused) Error() string { return "refused: " + strconv.Itoa(int(r.why)) }

// unless: nothing, if there is no error.
func unless(why api.Errno) error {
	if why == api.OK {
		return nil
	}
	return refused{why}
}

// placed: an error whose place is told, too.
type placed struct {
	by error
	at int
}

func (p placed) Error() string { return p.by.Error() + ", at " + strconv.Itoa(p.at) }
func (p placed) Unwrap() error { return p.by }

// told: an error as a line answers it.
func told(err error) string {
	text := joined(" ", "error", strconv.Itoa(int(errno(err))))
	var where placed
	if errors.As(err, &where) {
		text = joined(" ", text, "at", strconv.Itoa(where.at))
	}
	return text
}

// errno: an error's number.
func errno(err error) api.Errno {
	var r refused
	switch {
	case errors.As(err, &r):
		return r.why
	case errors.Is(err, errNil):
		return api.ErrNil
	case errors.Is(err, errLong):
		return api.ErrSize
	case errors.Is(err, errEnd), errors.Is(err, errNumber):
		return api.ErrArg
	case errors.Is(err, errCommand):
		return api.ErrCommand
	case errors.Is(err, errWords):
		return api.ErrWords
	case errors.Is(err, errName):
		return api.ErrName
	case errors.Is(err, errFull):
		return api.ErrFull
	}
	return api.OK
}

func joined(by string, texts ...string) string { return strings.Join(texts, by) }
