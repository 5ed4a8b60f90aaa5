package names

import (
	"strconv"
	"strings"
	"unicode/utf8"

	"cubit/api"
)

const (
	raisedPlus  = '\u207a'
	raisedMinus = '\u207b'
)

// raised: a digit's raised rune. Those of 1, 2 and 3 are older than the others, and stand elsewhere.
func raised(digit int) rune {
	switch digit {
	case 1:
		return 0xb9
	case 2:
		return 0xb2
	case 3:
		return 0xb3
	}
	return 0x2070 + rune(digit)
}

// lowered: a raised rune's digit.
func lowered(r rune) (int, bool) {
	for digit := range 10 {
		if raised(digit) == r {
			return digit, true
		}
	}
	return 0, false
}

func isRaised(r rune) bool {
	_, digit := lowered(r)
	return digit || r == raisedPlus || r == raisedMinus
}

// Power: the exponent of most raised runes that begins at a byte, and how many bytes it has.
func Power(s string, at int) (int, int, api.Errno) {
	if at < 0 || at > len(s) {
		return 0, 0, api.ErrArg
	}
	number, size, below := 0, 0, false
	for i, r := range s[at:] {
		if i == 0 && (r == raisedPlus || r == raisedMinus) {
			below = r == raisedMinus
			continue
		}
		digit, found := lowered(r)
		if !found {
			break
		}
		// Once it is too great it need not be right.
		number = min(number*10+digit, api.MaxExp+1)
		size = i + utf8.RuneLen(r)
	}
	switch {
	case size == 0:
		return 0, 0, api.ErrForm
	case number > api.MaxExp:
		return 0, 0, api.ErrExp
	case below:
		number = -number
	}
	return number, size, api.OK
}

// Raise: a number in raised digits.
func Raise(n int) (string, api.Errno) {
	if n < -api.MaxExp || n > api.MaxExp {
		return "", api.ErrExp
	}
	text := strings.Builder{}
	for _, r := range strconv.Itoa(n) {
		if r == '-' {
			text.WriteRune(raisedMinus)
		} else {
			text.WriteRune(raised(int(r - '0')))
		}
	}
	return text.String(), api.OK
}
