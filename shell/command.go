package shell

import (
	"slices"
	"strconv"
	"strings"
)

const blanks = " \t"

// maxPlaces: of a number's digits.
const maxPlaces = 9

// command: its word, what must stand behind it, and what it does.
type command struct {
	name, form string
	do         func(*Shell, said) (string, error)
}

// commands: all of them; the forms are in the words of the chapter, but that way parts what is left by itself.
func commands() []command {
	return []command{
		{"let", "NAME = E", (*Shell).let},
		{"drop", "NAME", (*Shell).drop},
		{"vars", "", (*Shell).names},
		{"exact", "E", (*Shell).exact},
		{"float", "E", (*Shell).float},
		{"spread", "E", (*Shell).spread},
		{"budget", "E", (*Shell).budget},
		{"dim", "E", (*Shell).dim},
		{"show", "N UNIT E", (*Shell).show},
		{"best", "N UNIT E", (*Shell).best},
		{"unit", "WORD", (*Shell).unit},
		{"const", "WORD", (*Shell).constant},
		{"near", "WORD", (*Shell).near},
		{"way", "U", (*Shell).way},
		{"decl", "LINE", (*Shell).declare},
		{"build", "", (*Shell).build},
		{"own", "", (*Shell).goHome},
		{"add", "WHAT DAY VALUE U", (*Shell).add},
		{"correct", "ID WHAT DAY VALUE U", (*Shell).correct},
		{"void", "ID", (*Shell).void},
		{"list", "", (*Shell).list},
		{"sum", "WHAT FROM TO U", (*Shell).sum},
		{"mean", "WHAT FROM TO U", (*Shell).mean},
		{"back", "N", (*Shell).back},
		{"start", "", (*Shell).start},
	}
}

// said: what stands behind a command: a text for each word of its form, and the number that it is, where it must be one.
type said struct {
	texts   []string
	numbers []int
}

// heard: what stands behind a command, if it is of the command's form.
func heard(form, rest string) (said, error) {
	kinds := strings.Fields(form)
	s := said{make([]string, len(kinds)), make([]int, len(kinds))}
	for i, kind := range kinds {
		if takesRest(kind) {
			s.texts[i], rest = rest, ""
		} else {
			s.texts[i], rest = cut(rest)
		}
		if s.texts[i] == "" {
			return said{}, errWords
		}
	}
	if rest != "" {
		return said{}, errWords
	}
	for i, kind := range kinds {
		if !isNumber(kind) {
			continue
		}
		var err error
		if s.numbers[i], err = number(s.texts[i]); err != nil {
			return said{}, err
		}
	}
	return s, nil
}

// takesRest: does it take all that is left, not one word?
func takesRest(kind string) bool { return slices.Contains([]string{"E", "LINE", "U"}, kind) }

func isNumber(kind string) bool {
	return slices.Contains([]string{"N", "ID", "DAY", "FROM", "TO"}, kind)
}

// cut: the first word of a text that begins with none but it, and what is left behind it.
func cut(l string) (string, string) {
	at := strings.IndexAny(l, blanks)
	if at < 0 {
		return l, ""
	}
	return l[:at], strings.TrimLeft(l[at:], blanks)
}

// number: perhaps -, and digits.
func number(word string) (int, error) {
	digits := strings.TrimPrefix(word, "-")
	noDigit := func(r rune) bool { return r < '0' || r > '9' }
	if digits == "" || len(digits) > maxPlaces || strings.ContainsFunc(digits, noDigit) {
		return 0, errNumber
	}
	return strconv.Atoi(word)
}
