package prefix_test

import (
	"math"
	"math/rand"
	"slices"
	"strings"
	"testing"

	"cubit/api"
	"cubit/prefix"
)

func unit(name, symbol string, takes int) api.Unit {
	return api.Unit{Name: name, Symbol: symbol, Takes: takes}
}

// P7.2: the examples.
func TestSplit(t *testing.T) {
	m := unit("metre", "m", api.SiPrefix)
	am := unit("am", "am", api.AnyPrefix)
	metre := []api.Unit{m}
	checkSplit(t, "km", metre, named(t, "kilo"), 0, api.OK)
	checkSplit(t, "mm", metre, named(t, "milli"), 0, api.OK)
	checkSplit(t, "kilometre", metre, named(t, "kilo"), 0, api.OK)
	checkSplit(t, "kmetre", []api.Unit{unit("metre", "metre_", api.SiPrefix), m}, api.Prefix{}, 0, api.ErrNone)
	checkSplit(t, "cd", []api.Unit{unit("candela", "cd", api.SiPrefix), unit("day", "d", api.SiPrefix)}, api.Prefix{}, 0, api.OK)
	checkSplit(t, "cd", []api.Unit{unit("day", "d", api.SiPrefix), unit("candela", "cd", api.SiPrefix)}, api.Prefix{}, 1, api.OK)
	checkSplit(t, "dam", []api.Unit{m, am}, api.Prefix{}, 0, api.ErrMixed)
	checkSplit(t, "dam", []api.Unit{am, m}, api.Prefix{}, 0, api.ErrMixed)
	checkSplit(t, "dam", metre, named(t, "deca"), 0, api.OK)
	checkSplit(t, "dam", []api.Unit{am}, named(t, "deci"), 0, api.OK)
}

// P7.2: each prefix, by each of its texts, and what a unit takes.
func TestSplitTakes(t *testing.T) {
	for _, o := range table(t) {
		for takes, both := range map[int][2]bool{api.NoPrefix: {}, api.SiPrefix: {true, false}, api.BinPrefix: {false, true}, api.AnyPrefix: {true, true}, -1: {}, 4: {}, 5: {}, 7: {}, math.MinInt: {}, math.MaxInt: {}} {
			units := []api.Unit{unit("other", "oth", api.AnyPrefix), unit("wid", "Wd", takes)}
			want, at, why := o.prefix(), 1, api.OK
			if o.binary && !both[1] || !o.binary && !both[0] {
				want, at, why = api.Prefix{}, 0, api.ErrNone
			}
			checkSplit(t, o.name+"wid", units, want, at, why)
			for _, s := range o.symbolsOf() {
				checkSplit(t, s+"Wd", units, want, at, why)
				checkSplit(t, s+"wid", units, api.Prefix{}, 0, api.ErrNone)
			}
			checkSplit(t, o.name+"Wd", units, api.Prefix{}, 0, api.ErrNone)
			checkSplit(t, "wid", units, api.Prefix{}, 1, api.OK)
			checkSplit(t, "Wd", units, api.Prefix{}, 1, api.OK)
			checkSplit(t, o.name, units, api.Prefix{}, 0, api.ErrNone)
			checkSplit(t, o.symbol, units, api.Prefix{}, 0, api.ErrNone)
		}
	}
}

// P7.2: no prefix goes ahead of any reading with one, and the first unit is meant.
func TestSplitPlain(t *testing.T) {
	units := []api.Unit{unit("a", "x", api.AnyPrefix), unit("km", "b", 0), unit("c", "km", 9), unit("metre", "m", api.AnyPrefix)}
	checkSplit(t, "km", units, api.Prefix{}, 1, api.OK)
	checkSplit(t, "km", units[2:], api.Prefix{}, 0, api.OK)
	checkSplit(t, "km", units[3:], named(t, "kilo"), 0, api.OK)
	checkSplit(t, "dam", []api.Unit{unit("metre", "m", 1), unit("am", "am", 1), unit("z", "dam", 0)}, api.Prefix{}, 2, api.OK)
}

// P7.2: two readings, and one that is found by names and by symbols.
func TestSplitMixed(t *testing.T) {
	kilo := named(t, "kilo")
	same := unit("x", "ilox", api.SiPrefix)
	checkSplit(t, "kilox", []api.Unit{same}, kilo, 0, api.OK)
	checkSplit(t, "kilox", []api.Unit{unit("x", "y", 1), unit("y", "ilox", 1)}, api.Prefix{}, 0, api.ErrMixed)
	checkSplit(t, "kilox", []api.Unit{same, same}, api.Prefix{}, 0, api.ErrMixed)
	checkSplit(t, "kilox", []api.Unit{unit("x", "y", 1), unit("x", "y", 1)}, api.Prefix{}, 0, api.ErrMixed)
	checkSplit(t, "kilox", []api.Unit{unit("x", "y", 1), unit("x", "y", 2)}, kilo, 0, api.OK)
	checkSplit(t, "kilox", []api.Unit{unit("x", "y", 0), unit("x", "y", 3)}, kilo, 1, api.OK)
	checkSplit(t, "Mix", []api.Unit{unit("p", "x", api.BinPrefix)}, named(t, "mebi"), 0, api.OK)
	checkSplit(t, "Mix", []api.Unit{unit("p", "ix", api.SiPrefix)}, named(t, "mega"), 0, api.OK)
	checkSplit(t, "Mix", []api.Unit{unit("p", "x", api.BinPrefix), unit("p", "ix", api.SiPrefix)}, api.Prefix{}, 0, api.ErrMixed)
	checkSplit(t, "exax", []api.Unit{unit("x", "p", 1), unit("p", "xax", 1)}, named(t, "exa"), 0, api.OK)
	checkSplit(t, "mmm", []api.Unit{unit("p", "mm", 1), unit("q", "m", 1)}, named(t, "milli"), 0, api.OK)
	checkSplit(t, "milliamm", []api.Unit{unit("p", "illiamm", 1), unit("amm", "q", 1)}, api.Prefix{}, 0, api.ErrMixed)
}

// P7.2: words that are too short or too long, units without names, wrong bytes.
func TestSplitEdges(t *testing.T) {
	long := strings.Repeat("x", 79)
	any := func(name, symbol string) []api.Unit { return []api.Unit{unit(name, symbol, api.AnyPrefix)} }
	checkSplit(t, "", nil, api.Prefix{}, 0, api.ErrForm)
	checkSplit(t, "", any("", ""), api.Prefix{}, 0, api.ErrForm)
	checkSplit(t, "k"+long, any("x", long), named(t, "kilo"), 0, api.OK)
	checkSplit(t, "kx"+long, any("x", "x"+long), api.Prefix{}, 0, api.ErrForm)
	checkSplit(t, "x"+long, any("x"+long, ""), api.Prefix{}, 0, api.OK)
	checkSplit(t, "xx"+long, any("xx"+long, "xx"+long), api.Prefix{}, 0, api.ErrForm)
	checkSplit(t, strings.Repeat("k", 1<<20), any("k", "k"), api.Prefix{}, 0, api.ErrForm)
	checkSplit(t, "x"+long, nil, api.Prefix{}, 0, api.ErrNone)
	checkSplit(t, "k", any("", ""), api.Prefix{}, 0, api.ErrNone)
	checkSplit(t, "kilo", any("", ""), api.Prefix{}, 0, api.ErrNone)
	checkSplit(t, "kilo", any("x", "ilo"), named(t, "kilo"), 0, api.OK)
	checkSplit(t, "km", any("", "m"), named(t, "kilo"), 0, api.OK)
	checkSplit(t, "kilom", any("m", ""), named(t, "kilo"), 0, api.OK)
	checkSplit(t, "k\xff", any("x", "\xff"), named(t, "kilo"), 0, api.OK)
	checkSplit(t, "\u00b5\xff", any("x", "\xff"), named(t, "micro"), 0, api.OK)
	checkSplit(t, "\xc2m", any("m", "m"), api.Prefix{}, 0, api.ErrNone)
	checkSplit(t, "\u03bc", any("\xbc", "\xbc"), api.Prefix{}, 0, api.ErrNone)
	checkSplit(t, "k m", any(" m", " m"), named(t, "kilo"), 0, api.OK)
	checkSplit(t, "Km", any("m", "m"), api.Prefix{}, 0, api.ErrNone)
}

// readings: of a word, by the chapter's own words.
func readings(all []one, word string, units []api.Unit) map[[2]int]int {
	found := map[[2]int]int{}
	for k, o := range all {
		for n, u := range units {
			takes := u.Takes == api.AnyPrefix || u.Takes == api.SiPrefix && !o.binary || u.Takes == api.BinPrefix && o.binary
			reads := u.Name != "" && word == o.name+u.Name
			for _, s := range o.symbolsOf() {
				reads = reads || u.Symbol != "" && word == s+u.Symbol
			}
			if takes && reads {
				found[[2]int{k, n}]++
			}
		}
	}
	return found
}

// P7.2, P7.5: words and units of few letters, so that many go together.
func TestSplitAgainstAllReadings(t *testing.T) {
	r := rand.New(rand.NewSource(72))
	all := table(t)
	// What stands ahead of the last letter may belong to a prefix, too.
	heads := []string{"", "", "", "a", "i", "ilo", "eca", "eci", "k", "mm", "da"}
	text := func() string { return heads[r.Intn(len(heads))] + []string{"m", "x", ""}[r.Intn(3)] }
	seen := map[api.Errno]int{}
	for range 60000 {
		var units []api.Unit
		for range r.Intn(8) {
			units = append(units, unit(text(), text(), []int{0, 1, 1, 2, 3, 3, 3, 4}[r.Intn(8)]))
		}
		o := all[[]int{0, 2, 3, 12, 14, 15, 24, 25, r.Intn(32)}[r.Intn(9)]]
		word := append(o.symbolsOf(), o.name, o.name)[r.Intn(2)] + text()
		if len(units) > 0 && r.Intn(2) == 0 {
			u := units[r.Intn(len(units))]
			word = []string{o.name + u.Name, o.symbol + u.Symbol}[r.Intn(2)]
		}
		given := slices.Clone(units)
		p, n, e := prefix.Split(word, units)
		seen[e]++
		if !slices.Equal(units, given) {
			t.Fatal("the units are changed")
		}
		plain := slices.IndexFunc(units, func(u api.Unit) bool { return u.Name == word || u.Symbol == word })
		found := readings(all, word, units)
		switch {
		case plain >= 0:
			checkSplit(t, word, units, api.Prefix{}, plain, api.OK)
		case len(found) == 0:
			checkSplit(t, word, units, api.Prefix{}, 0, api.ErrNone)
		case len(found) > 1:
			checkSplit(t, word, units, api.Prefix{}, 0, api.ErrMixed)
		default:
			for at := range found {
				checkSplit(t, word, units, all[at[0]].prefix(), at[1], api.OK)
			}
			u := units[n]
			symbol := slices.ContainsFunc(append(all[15].symbolsOf(), p.Symbol), func(s string) bool {
				same := s == p.Symbol || p.Name == "micro"
				return same && word == s+u.Symbol
			})
			if e == api.OK && word != p.Name+u.Name && !symbol {
				t.Errorf("%q is not read by %v, %v", word, p, u)
			}
		}
	}
	if seen[api.OK] < 5000 || seen[api.ErrNone] < 5000 || seen[api.ErrMixed] < 300 {
		t.Error("the words are too much of one kind:", seen)
	}
}
