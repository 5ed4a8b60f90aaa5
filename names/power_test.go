package names_test

import (
	"math"
	"math/rand"
	"strconv"
	"strings"
	"testing"

	"cubit/api"
	"cubit/names"
)

// raiser: what raised runes say.
var raiser = strings.NewReplacer("0", "\u2070", "1", "\u00b9", "2", "\u00b2", "3", "\u00b3", "4", "\u2074", "5", "\u2075", "6", "\u2076", "7", "\u2077", "8", "\u2078", "9", "\u2079", "+", "\u207a", "-", "\u207b")

// P6.3.
func TestPower(t *testing.T) {
	checkPower(t, "\u207b\u00b9\u00b2x", 0, -12, 7, api.OK)
	checkPower(t, "x\u207b\u00b9\u00b2", 1, -12, 7, api.OK)
	checkPower(t, "x\u207b\u00b9\u00b2", 4, 12, 4, api.OK)
	checkPower(t, "x\u207b\u00b9\u00b2", 6, 2, 2, api.OK)
	checkPower(t, "\u207b", 0, 0, 0, api.ErrForm)
	for s, want := range map[string]int{"0": 0, "-0": 0, "+0": 0, "+7": 7, "007": 7, "-099": -99, "+0099": 99, "12": 12, "99": 99, "-99": -99, "45": 45, "67": 67, "89": 89, "-10": -10} {
		up := raiser.Replace(s)
		for _, behind := range []string{"", "x", "2", "\u207b", "\u207a\u00b9", "\xff", "\xe2", "\u2071", "\u207c", " ", "-"} {
			checkPower(t, up+behind, 0, want, len(up), api.OK)
		}
	}
	for _, s := range []string{"100", "-100", "+100", "0000100", "999", "-9223372036854775809", "18446744073709551617", "4294967297", "1" + strings.Repeat("0", 20000), strings.Repeat("9", 20000)} {
		checkPower(t, raiser.Replace(s), 0, 0, 0, api.ErrExp)
		checkPower(t, "m"+raiser.Replace(s)+"s", 1, 0, 0, api.ErrExp)
	}
	checkPower(t, raiser.Replace(strings.Repeat("0", 20000)+"12"), 0, 12, 60004, api.OK)
	for _, s := range []string{"", "2", "-2", "x", "\u207a", "\u207b\u207b\u00b2", "\u207a\u207b\u00b2", "\u207bx", "\u207b2", "-\u00b2", "\xb2", "\xe2\x81", "\u2071", "\u2073", "\u207c", "\u00ba", "\u2080", "\ufffd", "\u207b \u00b2"} {
		checkPower(t, s, 0, 0, 0, api.ErrForm)
	}
	checkPower(t, "\u2074", 1, 0, 0, api.ErrForm)
	checkPower(t, "\u00b2", 1, 0, 0, api.ErrForm)
	checkPower(t, "\u00b2", 2, 0, 0, api.ErrForm)
}

// P6.3: texts of raised runes and others.
func TestPowers(t *testing.T) {
	r := rand.New(rand.NewSource(63))
	for range 20000 {
		var plain strings.Builder
		for range r.Intn(6) {
			plain.WriteByte("+-0012345678999x"[r.Intn(16)])
		}
		s := plain.String()
		end := 0
		if strings.HasPrefix(s, "+") || strings.HasPrefix(s, "-") {
			end = 1
		}
		for end < len(s) && s[end] >= '0' && s[end] <= '9' {
			end++
		}
		up := raiser.Replace(s)
		n, err := strconv.Atoi(s[:end])
		switch {
		case err != nil:
			checkPower(t, up, 0, 0, 0, api.ErrForm)
		case n < -99 || n > 99:
			checkPower(t, up, 0, 0, 0, api.ErrExp)
		default:
			checkPower(t, up, 0, n, len(raiser.Replace(s[:end])), api.OK)
		}
	}
}

// P6.3, P6.7.
func TestRaise(t *testing.T) {
	for n := -99; n <= 99; n++ {
		s, e := names.Raise(n)
		if s != raiser.Replace(strconv.Itoa(n)) || e != api.OK {
			t.Errorf("Raise(%d) = %q, %d", n, s, e)
		}
		checkPower(t, s, 0, n, len(s), api.OK)
	}
	for _, n := range []int{100, -100, 1 << 32, math.MaxInt, math.MinInt} {
		if s, e := names.Raise(n); s != "" || e != api.ErrExp {
			t.Errorf("Raise(%d) = %q, %d", n, s, e)
		}
	}
}
