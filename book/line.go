package book

import (
	"errors"
	"math"
	"strconv"
	"strings"

	"cubit/api"
	"cubit/rat"
)

// lastDay: the greatest number of a day.
const lastDay = 1000000

// What parts and ends lines, and the marks of entries.
const (
	between = "\t"
	end     = "\n"
	counted = "+"
	void    = "x"
)

// line: an entry, as it is written and read, field by field.
type line api.Entry

// column: how a field is written, and how it is read.
type column struct {
	write func(line) string
	read  func(*line, string) error
}

// columns: the fields of a line, in their order; the tags stand behind them.
func columns() []column {
	return []column{
		{line.id, (*line).readId},
		{line.of, (*line).readOf},
		{line.day, (*line).readDay},
		{line.mark, (*line).readMark},
		{line.what, (*line).readWhat},
		{line.value, (*line).readValue},
		{line.spread, (*line).readSpread},
		{line.unit, (*line).readUnit},
	}
}

func (l line) id() string     { return strconv.Itoa(l.Id) }
func (l line) of() string     { return strconv.Itoa(l.Of) }
func (l line) day() string    { return strconv.Itoa(l.Day) }
func (l line) what() string   { return escaped(l.What) }
func (l line) value() string  { return ratio(l.Value) }
func (l line) spread() string { return ratio(l.Spread) }
func (l line) unit() string   { return escaped(l.Unit) }
func (l line) mark() string {
	if l.Void {
		return void
	}
	return counted
}

func (l *line) readId(s string) (err error)     { l.Id, err = natural(s); return }
func (l *line) readOf(s string) (err error)     { l.Of, err = natural(s); return }
func (l *line) readDay(s string) (err error)    { l.Day, err = natural(s); return }
func (l *line) readWhat(s string) (err error)   { l.What, err = plain(s); return }
func (l *line) readValue(s string) (err error)  { l.Value, err = readRatio(s); return }
func (l *line) readSpread(s string) (err error) { l.Spread, err = readRatio(s); return }
func (l *line) readUnit(s string) (err error)   { l.Unit, err = plain(s); return }
func (l *line) readMark(s string) error {
	l.Void = s == void
	if s != void && s != counted {
		return errLine
	}
	return nil
}

// written: the line of an entry that can stand in a book.
func written(e api.Entry) string {
	var parts []string
	for _, c := range columns() {
		parts = append(parts, c.write(line(e)))
	}
	for _, tag := range e.Tags {
		parts = append(parts, escaped(tag))
	}
	return joined(between, parts...) + end
}

// read: the entry of a line, with the byte at its end.
func read(s string) (api.Entry, error) {
	s, ended := strings.CutSuffix(s, end)
	parts := strings.Split(s, between)
	if !ended || len(parts) < len(columns()) {
		return api.Entry{}, errLine
	}
	l, err := readParts(parts)
	if err != nil {
		return api.Entry{}, err
	}
	return api.Entry(l), standing(api.Entry(l))
}

// readParts: of a line; of its faults the first one of a number is told only where the line can be.
func readParts(parts []string) (l line, first error) {
	list := columns()
	for i, part := range parts {
		var err error
		if i < len(list) {
			err = list[i].read(&l, part)
		} else {
			err = l.readTag(part)
		}
		if first == nil || errors.Is(err, errLine) {
			first = err
		}
	}
	return l, first
}

func (l *line) readTag(s string) error {
	tag, err := plain(s)
	l.Tags = append(l.Tags, tag)
	return err
}

// standing: can an entry stand in a book?
func standing(e api.Entry) error {
	switch sign, why := rat.Sign(e.Spread); {
	case e.Id < 1 || e.Id > api.MaxEntries, e.Of < 0 || e.Of > api.MaxEntries, e.Day < 0 || e.Day > lastDay:
		return refused{api.ErrArg}
	case !rat.Right(e.Value) || why != api.OK:
		return refused{api.ErrForm}
	case sign < 0:
		return refused{api.ErrBelow}
	case len(e.Tags) > api.MaxTags:
		return refused{api.ErrSize}
	}
	return nil
}

func joined(by string, parts ...string) string { return strings.Join(parts, by) }

// natural: a number in decimal; one of more digits than any that can stand is as good as the greatest.
func natural(s string) (int, error) {
	noDigit := func(r rune) bool { return r < '0' || r > '9' }
	switch {
	case s == "" || strings.ContainsFunc(s, noDigit) || s[0] == '0' && s != "0":
		return 0, errLine
	case len(s) > 9:
		return math.MaxInt, nil
	}
	return strconv.Atoi(s)
}

// ratio: of a number that is right.
func ratio(r api.Rat) string {
	s, _ := rat.Print(r)
	return s
}

// readRatio: only as it is written.
func readRatio(s string) (api.Rat, error) {
	r, why, _ := rat.Parse(s)
	switch {
	case why != api.OK:
		return api.Rat{}, refused{why}
	case ratio(r) != s:
		return api.Rat{}, refused{api.ErrForm}
	}
	return r, nil
}

// The bytes that part lines and fields, and that by which these are escaped; and the letters that stand for them behind it.
const (
	escapes = "\\\t\n"
	letters = "\\tn"
)

// escaped: a text without the bytes that part lines and fields.
func escaped(s string) string {
	var out strings.Builder
	for {
		at := strings.IndexAny(s, escapes)
		if at < 0 {
			out.WriteString(s)
			return out.String()
		}
		out.WriteString(s[:at])
		out.WriteByte('\\')
		out.WriteByte(letters[strings.IndexByte(escapes, s[at])])
		s = s[at+1:]
	}
}

// plain: back.
func plain(s string) (string, error) {
	var out strings.Builder
	for {
		ahead, rest, more := strings.Cut(s, "\\")
		out.WriteString(ahead)
		if !more {
			return out.String(), nil
		}
		if rest == "" {
			return "", errLine
		}
		at := strings.IndexByte(letters, rest[0])
		if at < 0 {
			return "", errLine
		}
		out.WriteByte(escapes[at])
		s = rest[1:]
	}
}
