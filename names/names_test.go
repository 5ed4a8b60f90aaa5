package names_test

import (
	"math"
	"math/rand"
	"strings"
	"testing"

	"cubit/api"
	"cubit/names"
)

// P6.1: every rune, and numbers that are none.
func TestClass(t *testing.T) {
	if names.None != 0 || names.Letter != 1 || names.Digit != 2 || names.Raised != 3 || names.Sign != 4 {
		t.Error("the classes have other numbers")
	}
	for r := rune(-1000); r < 0x111000; r++ {
		if got := names.Class(r); got != classOf(r) {
			t.Errorf("Class(%x) = %d, not %d", r, got, classOf(r))
		}
	}
	for _, r := range []rune{math.MinInt32, math.MaxInt32, -'A', 'A' + 1<<24, 'A' - 1<<31, 0xd800, 0xdfff} {
		if got := names.Class(r); got != names.None {
			t.Errorf("Class(%x) = %d", r, got)
		}
	}
}

// P6.1: each rune by itself, and behind others.
func TestFoldRunes(t *testing.T) {
	for r := rune(0); r <= 0x2200; r++ {
		if r >= 0xd800 && r < 0xe000 {
			continue
		}
		s := string(r)
		f := folder.Replace(s)
		switch classOf(r) {
		case names.Letter:
			checkFold(t, s, f, api.OK, 0)
			checkFold(t, "x"+s, "x"+f, api.OK, 0)
			checkFold(t, "\u00b0"+s, "\u00b0"+f, api.OK, 0)
			checkFold(t, "%"+s, "", api.ErrRune, 1)
		case names.Digit:
			checkFold(t, s, "", api.ErrRune, 0)
			checkFold(t, "x"+s, "x"+f, api.OK, 0)
			checkFold(t, "\u00b0C"+s, "", api.ErrRune, 3)
		case names.Sign:
			checkFold(t, s, f, api.OK, 0)
			checkFold(t, "x"+s, "", api.ErrRune, 1)
			checkFold(t, "\u00b0"+s, "", api.ErrRune, 2)
			checkFold(t, "\u2126"+s, "", api.ErrRune, 3)
			checkFold(t, s+s, "", api.ErrRune, len(s))
		default:
			checkFold(t, s, "", api.ErrRune, 0)
			checkFold(t, "x"+s, "", api.ErrRune, 1)
			checkFold(t, "\u00b0"+s+"C", "", api.ErrRune, 2)
		}
	}
}

// P6.1.
func TestFold(t *testing.T) {
	for s, want := range map[string]string{
		"\u00b5m": "\u03bcm", "\u212a": "K", "\u212b": "\u00c5", "\u2126": "\u03a9", "\u2032": "'", "\u2033": "\"", "\u2019": "'", "\u00b0C": "\u00b0C", "\u00b0": "\u00b0", "%": "%",
		"a\u00b5\u2126\u212b\u212a9": "a\u03bc\u03a9\u00c5K9", "_": "_", "_9": "_9", "inch": "inch", "In": "In", "IN": "IN", "i": "i", "in_": "in_", "\u00b0in": "\u00b0in", "K9m_3": "K9m_3",
	} {
		checkFold(t, s, want, api.OK, 0)
	}
	for s, at := range map[string]int{
		"": 0, "2m": 0, "m\u00b2": 1, "a\xff": 1, "%x": 1, " m": 0, "m ": 1, "in ": 2, "\xff": 0, "\xce": 0, "a\xce": 1, "\u00b0\u00b0": 2, "\u00b0C2": 3, "\u00b02": 2, "''": 1, "\u2103C": 3, "\u2032\u2032": 3, "\u00b5\u00b2": 2, "m/s": 1, "-": 0, "a\xb0": 1, "a\ufffd": 1, "\x00": 0, "a\u03a2": 1,
	} {
		checkFold(t, s, "", api.ErrRune, at)
	}
	checkFold(t, "in", "", api.ErrName, 0)
}

// P6.1: the folded word's bytes count, and a rune that can not stand there is ahead of that.
func TestFoldSize(t *testing.T) {
	x := strings.Repeat("x", 37)
	checkFold(t, x+"xxx", x+"xxx", api.OK, 0)
	checkFold(t, x+"xxxx", "", api.ErrSize, 0)
	checkFold(t, x+"\u212a\u212a\u212a", x+"KKK", api.OK, 0)
	checkFold(t, x+"\u212a\u212a\u212ax", "", api.ErrSize, 0)
	checkFold(t, x+"x\u2126", x+"x\u03a9", api.OK, 0)
	checkFold(t, x+"xx\u2126", "", api.ErrSize, 0)
	checkFold(t, x+"xx\u00b5", "", api.ErrSize, 0)
	checkFold(t, strings.Repeat("\u212b", 20), strings.Repeat("\u00c5", 20), api.OK, 0)
	checkFold(t, strings.Repeat("\u212b", 21), "", api.ErrSize, 0)
	checkFold(t, "\u00b0"+x+"x", "\u00b0"+x+"x", api.OK, 0)
	checkFold(t, "\u00b0"+x+"xx", "", api.ErrSize, 0)
	checkFold(t, x+"xxxx-", "", api.ErrRune, 41)
	checkFold(t, strings.Repeat("x", 1<<20), "", api.ErrSize, 0)
	checkFold(t, strings.Repeat("x", 1<<20)+"\xff", "", api.ErrRune, 1<<20)
}

// P6.1, P6.2, P6.6: texts of all kinds, against an expression.
func TestWords(t *testing.T) {
	r := rand.New(rand.NewSource(61))
	seen := map[api.Errno]int{}
	for range 60000 {
		s := chance(r, []int{3, 8, 60}[r.Intn(3)])
		word, size := cutWord(s)
		why := api.OK
		switch {
		case size < len(s) || s == "":
			why = api.ErrRune
		case len(word) > 40:
			why = api.ErrSize
		case word == "in":
			why = api.ErrName
		}
		seen[why]++
		switch why {
		case api.OK:
			checkFold(t, s, word, why, 0)
			checkFold(t, word, word, why, 0)
		case api.ErrRune:
			checkFold(t, s, "", why, size)
		default:
			checkFold(t, s, "", why, 0)
		}
		for at := range len(s) + 1 {
			word, size := cutWord(s[at:])
			if size == 0 {
				checkCut(t, s, at, "", 0, api.ErrRune)
				continue
			}
			checkCut(t, s, at, word, size, api.OK)
			// What stands behind does not go on with it.
			if end := at + size; end < len(s) {
				if _, longer, _ := names.Cut(s[at:], 0); longer != size {
					t.Errorf("Cut(%q, %d) goes on", s, at)
				}
			}
		}
	}
	if seen[api.OK] < 5000 || seen[api.ErrRune] < 5000 || seen[api.ErrName] < 10 {
		t.Error("the texts are too much of one kind:", seen)
	}
}

// P6.2.
func TestCut(t *testing.T) {
	checkCut(t, "m2/s", 0, "m2", 2, api.OK)
	checkCut(t, "m2/s", 1, "", 0, api.ErrRune)
	checkCut(t, "m2/s", 2, "", 0, api.ErrRune)
	checkCut(t, "m2/s", 3, "s", 1, api.OK)
	checkCut(t, "m2/s", 4, "", 0, api.ErrRune)
	checkCut(t, "\u2126m", 0, "\u03a9m", 4, api.OK)
	checkCut(t, "\u2126m", 1, "", 0, api.ErrRune)
	checkCut(t, "\u2126m", 2, "", 0, api.ErrRune)
	checkCut(t, "\u2126m", 3, "m", 1, api.OK)
	checkCut(t, "5 in", 2, "in", 2, api.OK)
	checkCut(t, "\u00b0C2", 0, "\u00b0C", 3, api.OK)
	checkCut(t, "\u00b02", 0, "\u00b0", 2, api.OK)
	checkCut(t, "%%", 0, "%", 1, api.OK)
	checkCut(t, "%m", 1, "m", 1, api.OK)
	checkCut(t, "\u2033m", 0, "\"", 3, api.OK)
	checkCut(t, "m\u00b2", 0, "m", 1, api.OK)
	checkCut(t, "a\xffb", 0, "a", 1, api.OK)
	checkCut(t, "a\xffb", 1, "", 0, api.ErrRune)
	checkCut(t, "", 0, "", 0, api.ErrRune)
	long := strings.Repeat("\u212a", 70000)
	checkCut(t, "-"+long+"-", 1, strings.Repeat("K", 70000), 210000, api.OK)
	for _, at := range []int{-1, 4, math.MinInt, math.MaxInt} {
		checkCut(t, "abc", at, "", 0, api.ErrArg)
		checkPower(t, "\u00b2x", at, 0, 0, api.ErrArg)
	}
	checkCut(t, "", 1, "", 0, api.ErrArg)
	checkPower(t, "", 1, 0, 0, api.ErrArg)
}
