package names_test

import (
	"math"
	"math/rand"
	"slices"
	"strings"
	"testing"
	"unicode/utf8"

	"cubit/api"
	"cubit/names"
)

func checkList(t *testing.T, name string, got, want []string) {
	t.Helper()
	if !slices.Equal(got, want) {
		t.Errorf("%s = %q, not %q", name, got, want)
	}
}

// P6.4.
func TestSort(t *testing.T) {
	for _, want := range [][]string{
		nil,
		{"a"},
		{"B", "a", "ab", "b", "\u03bc"},
		{"", "", "a", "a", "aa", "ab", "b"},
		{"A", "Z", "_", "a", "\u00b5", "\u03bc", "\u2126"}, // nothing is folded
		{"\ud7ff", "\ue000", "\ufffc", "\x80", "\xc2", "\ufffd", "\xff", "\ufffe", "\U00010000", "\U0010ffff"},
		{"\ufffd", "\xff", "\ufffda", "\xffa", "\xff\ufffc", "\ufffd\ufffd", "\ufffd\xff", "\xff\ufffd", "\xff\xff", "\xff\U00010000"},
		{"\xe2\x84", "\xff\x80", "\xe2\x84x"}, // two broken bytes, then x
		{"\xef", "\ufffd", "\xf0"},
		{"\x00", "\x00\x00", "\x01"},
	} {
		for i := range 40 {
			l := slices.Clone(want)
			rand.New(rand.NewSource(int64(i))).Shuffle(len(l), func(i, j int) { l[i], l[j] = l[j], l[i] })
			given := slices.Clone(l)
			checkList(t, "Sort", names.Sort(l), want)
			checkList(t, "what Sort was given", l, given)
		}
	}
}

// less: the order of P6.4.
func less(a, b string) bool {
	if x, y := []rune(a), []rune(b); !slices.Equal(x, y) {
		return slices.Compare(x, y) < 0
	}
	return a < b
}

// P6.4, P6.8.
func TestSorted(t *testing.T) {
	r := rand.New(rand.NewSource(64))
	for range 400 {
		var l []string
		for range r.Intn(60) {
			s := chance(r, 4)
			for range 1 + r.Intn(2) {
				l = append(l, s)
			}
		}
		sorted := names.Sort(l)
		for i := 1; i < len(sorted); i++ {
			if less(sorted[i], sorted[i-1]) {
				t.Errorf("%q stands ahead of %q", sorted[i-1], sorted[i])
			}
		}
		count := map[string]int{}
		for _, s := range l {
			count[s]++
		}
		for _, s := range sorted {
			count[s]--
		}
		for s, n := range count {
			if n != 0 {
				t.Errorf("%q stands there too often or not often enough: %d", s, n)
			}
		}
		checkList(t, "Sort of it", names.Sort(sorted), sorted)
	}
}

// P6.4, P6.5: what is given stays as it was, behind its length too, and what is answered is new.
func TestListsAreNew(t *testing.T) {
	l := []string{"c", "b", "a", "z"}
	given := slices.Clone(l)
	for _, got := range [][]string{names.Sort(l[:3]), names.Near("b", l[:3], 1), names.Sort(l[:1]), names.Near("c", l[:1], 0)} {
		checkList(t, "the list", l, given)
		for i := range got {
			got[i] = "?"
		}
		_ = append(got, "?")
		checkList(t, "the list", l, given)
	}
	sorted := []string{"a", "b"}
	names.Sort(sorted)[0] = "?"
	checkList(t, "a sorted list", sorted, []string{"a", "b"})
}

// apart: a text's runes, a broken byte as itself.
func apart(s string) []string {
	var l []string
	for s != "" {
		_, n := utf8.DecodeRuneInString(s)
		l, s = append(l, s[:n]), s[n:]
	}
	return l
}

// distance: F of P6.5, by its own words.
func distance(a, b []string, known map[[2]int]int) int {
	i, j := len(a), len(b)
	if i == 0 || j == 0 {
		return i + j
	}
	if f, ok := known[[2]int{i, j}]; ok {
		return f
	}
	change := 1
	if a[i-1] == b[j-1] {
		change = 0
	}
	f := min(distance(a[:i-1], b, known)+1, distance(a, b[:j-1], known)+1, distance(a[:i-1], b[:j-1], known)+change)
	if i > 1 && j > 1 && a[i-1] == b[j-2] && a[i-2] == b[j-1] {
		f = min(f, distance(a[:i-2], b[:j-2], known)+1)
	}
	known[[2]int{i, j}] = f
	return f
}

func checkFar(t *testing.T, a, b string, want int, why api.Errno) {
	t.Helper()
	if got, e := names.Far(a, b); got != want || e != why {
		t.Errorf("Far(%.60q, %.60q) = %d, %d, not %d, %d", a, b, got, e, want, why)
	}
}

// P6.5.
func TestFar(t *testing.T) {
	x, y := strings.Repeat("x", 40), strings.Repeat("y", 40)
	for _, c := range []struct {
		a, b string
		want int
	}{
		{"metre", "meter", 1}, {"ab", "bca", 3}, {"ab", "ba", 1}, {"kg", "", 2}, {"", "", 0}, {"abcd", "badc", 2}, {"abc", "cab", 2}, {"a", "b", 1}, {"a", "A", 1},
		{"\u03bcm", "m", 1}, {"\u00b5", "\u03bc", 1}, {"\u2126\u00b5", "\u00b5\u2126", 1}, {"\xff", "\ufffd", 1}, {"\xff", "\xfe", 1}, {"\xff", "\xff", 0}, {"\xff", "", 1}, {"\xe2\x84", "\u2126", 2}, {"\xef\xbf", "\ufffd\ufffd", 2}, {"\xef", "\ufffd", 1}, {"\xc2", "\u00c2", 1}, {"\xff\xfe", "\xfe\xff", 1},
		{x, y, 40}, {x, "", 40}, {x, x, 0}, {x, x[1:] + "y", 1}, {strings.Repeat("xy", 20), strings.Repeat("yx", 20), 2}, {strings.Repeat("\u2126", 13), "\u2126", 12},
	} {
		checkFar(t, c.a, c.b, c.want, api.OK)
		checkFar(t, c.b, c.a, c.want, api.OK)
	}
	for _, b := range []string{"", "x", x, x + "x"} {
		for _, long := range []string{x + "x", strings.Repeat("\u2126", 14), strings.Repeat("x", 1<<20)} {
			checkFar(t, long, b, 0, api.ErrSize)
			checkFar(t, b, long, 0, api.ErrSize)
		}
	}
}

// P6.5, P6.9.
func TestDistance(t *testing.T) {
	r := rand.New(rand.NewSource(69))
	for range 20000 {
		a := chance(r, 7)
		b := chance(r, 7)
		switch r.Intn(4) {
		case 0: // of few runes, so that many are alike
			a, b = few(r), few(r)
		case 1: // a little change of the first
			at := r.Intn(len(a) + 1)
			b = a[:at] + chance(r, 2) + a[min(at+r.Intn(3), len(a)):]
		}
		if len(a) > 40 || len(b) > 40 {
			continue
		}
		x, y := apart(a), apart(b)
		want := distance(x, y, map[[2]int]int{})
		checkFar(t, a, b, want, api.OK)
		checkFar(t, b, a, want, api.OK)
		if (want == 0) != (a == b) || want > max(len(x), len(y)) || want < len(x)-len(y) || want < len(y)-len(x) {
			t.Errorf("Far(%q, %q) = %d is no distance", a, b, want)
		}
	}
}

func few(r *rand.Rand) string {
	var s strings.Builder
	for range r.Intn(12) {
		s.WriteString([]string{"a", "b", "\u03bc", "\xff"}[r.Intn(4)])
	}
	return s.String()
}

// P6.5.
func TestNear(t *testing.T) {
	x := strings.Repeat("x", 40)
	for _, c := range []struct {
		s    string
		l    []string
		most int
		want []string
	}{
		{"meter", []string{"metre", "metres", "litre"}, 2, []string{"metre"}},
		{"meter", []string{"metre", "metres", "litre"}, 1, []string{"metre"}},
		{"meter", []string{"metre", "metres", "litre"}, 0, nil},
		{"meter", []string{"metre", "metres", "litre"}, -1, nil},
		{"a", []string{"a"}, 0, []string{"a"}},
		{"a", []string{"a"}, -1, nil},
		{"a", []string{"a"}, math.MinInt, nil},
		{"a", []string{"bbb", "bbbb", "cc"}, math.MaxInt, []string{"cc"}},
		{"b", []string{"c", "b", "a", "b", "c"}, 5, []string{"b"}},
		{"b", []string{"c", "a", "\u03bc", "", "a", "c", "ab", "bbb"}, 1, []string{"", "a", "ab", "c", "\u03bc"}},
		{"b", []string{"bbb", "c", "bbb", "aaa"}, 3, []string{"c"}},
		{"", []string{"aa", "", "a"}, 3, []string{""}},
		{"", nil, 3, nil},
		{"\xff", []string{"\xfe", "\ufffd", "\xfe"}, 3, []string{"\ufffd", "\xfe"}},
		{x, []string{x + "x", x[1:], x[2:]}, 3, []string{x[1:]}},
		{x, []string{x + "x"}, 3, nil},
		{x + "x", []string{x, x + "x"}, 3, nil},
		{"", []string{x, x + "x"}, 40, []string{x}},
		{"", []string{x}, 39, nil},
	} {
		checkList(t, "Near of "+c.s, names.Near(c.s, c.l, c.most), c.want)
	}
}

// P6.5: against Far of each of them.
func TestNearest(t *testing.T) {
	r := rand.New(rand.NewSource(65))
	for range 2000 {
		s, most := few(r), r.Intn(8)-1
		var l, want []string
		for range r.Intn(20) {
			l = append(l, few(r))
		}
		for far := 0; far <= most && len(want) == 0; far++ {
			for _, text := range l {
				if d, _ := names.Far(s, text); d == far && !slices.Contains(want, text) {
					want = append(want, text)
				}
			}
		}
		checkList(t, "Near", names.Near(s, l, most), names.Sort(want))
	}
}
