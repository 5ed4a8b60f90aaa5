package names

import (
	"cmp"
	"slices"
	"strings"
	"unicode/utf8"

	"cubit/api"
)

// Sort: all of them, in the order of their runes.
func Sort(l []string) []string {
	sorted := slices.Clone(l)
	slices.SortFunc(sorted, order)
	return sorted
}

// order: by runes, and, where broken bytes make two texts alike, by bytes; 0 just of the same texts.
func order(a, b string) int {
	return cmp.Or(runeOrder(a, b), strings.Compare(a, b))
}

func runeOrder(a, b string) int {
	for a != "" && b != "" {
		first, size := utf8.DecodeRuneInString(a)
		other, otherSize := utf8.DecodeRuneInString(b)
		if first != other {
			return cmp.Compare(first, other)
		}
		a, b = a[size:], b[otherSize:]
	}
	return cmp.Compare(len(a), len(b))
}

// broken: with a broken byte added, a number that no rune has.
const broken = utf8.MaxRune + 1

// runes of a text, with each broken byte as one of its own.
func runes(s string) []rune {
	var l []rune
	for at, r := range s {
		// The range gives a broken byte as a rune that may stand in the text itself, in more bytes.
		if _, size := utf8.DecodeRuneInString(s[at:]); r == utf8.RuneError && size == 1 {
			r = broken + rune(s[at])
		}
		l = append(l, r)
	}
	return l
}

// Far: how many changes lie between two texts.
func Far(a, b string) (int, api.Errno) {
	if len(a) > api.MaxName || len(b) > api.MaxName {
		return 0, api.ErrSize
	}
	return changes(runes(a), runes(b)), api.OK
}

// changes: runes put in, taken away, taken for others, and neighbours that change places.
func changes(a, b []rune) int {
	far := [api.MaxName + 1][api.MaxName + 1]int{} // between the first i of a and the first j of b
	for i := range len(a) + 1 {
		for j := range len(b) + 1 {
			if i == 0 || j == 0 {
				far[i][j] = i + j
				continue
			}
			other := far[i-1][j-1]
			if a[i-1] != b[j-1] {
				other++
			}
			far[i][j] = min(far[i-1][j]+1, far[i][j-1]+1, other)
			if i > 1 && j > 1 && a[i-1] == b[j-2] && a[i-2] == b[j-1] {
				far[i][j] = min(far[i][j], far[i-2][j-2]+1)
			}
		}
	}
	return far[len(a)][len(b)]
}

// Near: those of a list that are nearest, and at most so far away.
func Near(s string, l []string, most int) []string {
	var nearest []string
	for _, text := range l {
		far, e := Far(s, text)
		if e != api.OK || far > most {
			continue
		}
		if far < most {
			nearest, most = nil, far
		}
		nearest = append(nearest, text)
	}
	return slices.Compact(Sort(nearest))
}
