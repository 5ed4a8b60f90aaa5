package names_test

import (
	"math/rand"
	"regexp"
	"strings"
	"testing"

	"cubit/api"
	"cubit/names"
)

// ranges: a class by its runes, from each to the next one.
type ranges struct {
	class int
	runes []rune
}

// classes: as the chapter has them, with what is folded to them.
func classes() []ranges {
	return []ranges{
		{names.Letter, []rune{'A', 'Z', 'a', 'z', '_', '_', 0xc5, 0xc6, 0xd8, 0xd8, 0xe5, 0xe6, 0xf8, 0xf8, 0x391, 0x3a1, 0x3a3, 0x3a9, 0x3b1, 0x3c9, 0xb5, 0xb5, 0x2126, 0x2126, 0x212a, 0x212b}},
		{names.Digit, []rune{'0', '9'}},
		{names.Raised, []rune{0xb9, 0xb9, 0xb2, 0xb3, 0x2070, 0x2070, 0x2074, 0x2079, 0x207a, 0x207b}},
		{names.Sign, []rune{'%', '%', '\'', '\'', '"', '"', 0xb0, 0xb0, 0x2030, 0x2030, 0x2103, 0x2103, 0x2109, 0x2109, 0x2032, 0x2033, 0x2019, 0x2019}},
	}
}

func classOf(r rune) int {
	for _, c := range classes() {
		for i := 0; i < len(c.runes); i += 2 {
			if c.runes[i] <= r && r <= c.runes[i+1] {
				return c.class
			}
		}
	}
	return names.None
}

// folder: the folding, by another means than the program's.
var folder = strings.NewReplacer("\u00b5", "\u03bc", "\u2126", "\u03a9", "\u212b", "\u00c5", "\u212a", "K", "\u2032", "'", "\u2033", "\"", "\u2019", "'")

// wordText: a word, of runes as they are folded.
var wordText = regexp.MustCompile("^(?:[A-Za-z_\u00c5\u00c6\u00d8\u00e5\u00e6\u00f8\u0391-\u03a1\u03a3-\u03a9\u03b1-\u03c9][A-Za-z_\u00c5\u00c6\u00d8\u00e5\u00e6\u00f8\u0391-\u03a1\u03a3-\u03a9\u03b1-\u03c90-9]*|\u00b0[A-Za-z_\u00c5\u00c6\u00d8\u00e5\u00e6\u00f8\u0391-\u03a1\u03a3-\u03a9\u03b1-\u03c9]*|[%'\"\u2030\u2103\u2109])")

// cutWord: the longest word at a text's beginning, folded, and how many bytes of the text it has.
func cutWord(s string) (string, int) {
	word := wordText.FindString(folder.Replace(s))
	size, at := 0, 0
	for i, r := range s {
		if at == len(word) {
			return word, i
		}
		at += len(folder.Replace(string(r)))
		size = i + len(string(r))
	}
	return word, size
}

// chance: a text of runes that names have, of others near to them, and of broken bytes.
func chance(r *rand.Rand, most int) string {
	var s strings.Builder
	for range r.Intn(most + 1) {
		switch r.Intn(12) {
		case 0, 1, 2, 3:
			s.WriteByte("abinABZ_"[r.Intn(8)])
		case 4, 5:
			s.WriteByte("0192"[r.Intn(4)])
		case 6, 7:
			l := []rune{0xb5, 0x3bc, 0x2126, 0x3a9, 0x212b, 0xc5, 0x212a, 0x3a2, 0x391, 0x3c9, 0x3ca, 0xe6}
			s.WriteRune(l[r.Intn(len(l))])
		case 8:
			l := []rune{0xb0, '%', '\'', '"', 0x2032, 0x2033, 0x2019, 0x2030, 0x2103, 0x2109}
			s.WriteRune(l[r.Intn(len(l))])
		case 9:
			l := []rune{0x2070, 0xb9, 0xb2, 0xb3, 0x2074, 0x2079, 0x207a, 0x207b, 0xba, 0x2071}
			s.WriteRune(l[r.Intn(len(l))])
		case 10:
			l := []rune{' ', '/', '^', '-', 0xfffd, 0x10ffff, 0x10000, 0, 0x7f}
			s.WriteRune(l[r.Intn(len(l))])
		case 11:
			s.WriteByte([]byte{0xff, 0x80, 0xc2, 0xce, 0xe2, 0xef, 0xb0}[r.Intn(7)])
		}
	}
	return s.String()
}

func checkFold(t *testing.T, s, want string, why api.Errno, place int) {
	t.Helper()
	if got, e, at := names.Fold(s); got != want || e != why || at != place {
		t.Errorf("Fold(%.60q) = %q, %d, %d, not %q, %d, %d", s, got, e, at, want, why, place)
	}
	if right := why == api.OK && want == s; names.Right(s) != right {
		t.Errorf("Right(%.60q) is not %v", s, right)
	}
}

func checkCut(t *testing.T, s string, at int, want string, size int, why api.Errno) {
	t.Helper()
	if got, n, e := names.Cut(s, at); got != want || n != size || e != why {
		t.Errorf("Cut(%.60q, %d) = %q, %d, %d, not %q, %d, %d", s, at, got, n, e, want, size, why)
	}
}

func checkPower(t *testing.T, s string, at, want, size int, why api.Errno) {
	t.Helper()
	if got, n, e := names.Power(s, at); got != want || n != size || e != why {
		t.Errorf("Power(%.60q, %d) = %d, %d, %d, not %d, %d, %d", s, at, got, n, e, want, size, why)
	}
}
