package reg_test

import (
	"slices"
	"strings"
	"testing"

	"cubit/api"
	"cubit/rat"
	"cubit/reg"
)

// behind: a unit with a prefix, as it should be found.
func behind(name, symbol string, factor api.Rat, u api.Unit) api.Unit {
	u.Name, u.Symbol, u.Takes = name+u.Name, symbol+u.Symbol, api.NoPrefix
	u.Factor, _ = rat.Mul(factor, u.Factor)
	return u
}

// P8.5: the examples.
func TestFind(t *testing.T) {
	r := with(t, metre())
	kilometre := behind("kilo", "k", rat.Of(1000), metre())
	checkFind(t, r, "km", kilometre, api.OK)
	checkFind(t, r, "kilometre", kilometre, api.OK)
	checkFind(t, r, "kilometer", api.Unit{}, api.ErrUnit)
	checkWhy(t, "Alias", r.Alias("meter", "metre"), api.OK)
	checkFind(t, r, "meter", metre(), api.OK)
	checkFind(t, r, "kilometer", kilometre, api.OK)
	checkFind(t, r, "kmeter", kilometre, api.OK)
	checkFind(t, r, "kmetre", api.Unit{}, api.ErrUnit)
	checkFind(t, r, "Kim", api.Unit{}, api.ErrUnit)
	checkWhy(t, "Add", r.Add(unit("minute", "min", api.NoPrefix)), api.OK)
	checkFind(t, r, "min", unit("minute", "min", api.NoPrefix), api.OK)
	checkWhy(t, "Drop", r.Drop("meter"), api.OK)
	checkFind(t, r, "m", api.Unit{}, api.ErrUnit)
	checkFind(t, r, "min", unit("minute", "min", api.NoPrefix), api.OK)
}

// P8.5: names.Fold's errors, ahead of all else.
func TestFindWrong(t *testing.T) {
	empty, r := reg.New(), with(t, metre())
	checkFind(t, empty, "m", api.Unit{}, api.ErrUnit)
	checkConst(t, empty, "c", api.Const{}, api.ErrName)
	checkWhy(t, "Keep", r.Keep(light()), api.OK)
	for word, why := range map[string]api.Errno{"2m": api.ErrRune, "": api.ErrRune, "m\u00b2": api.ErrRune, "k m": api.ErrRune, "\xff": api.ErrRune, "m\xff": api.ErrRune, "in": api.ErrName, long(41): api.ErrSize, strings.Repeat("\u2126", 21): api.ErrSize, "kilo" + long(37): api.ErrSize} {
		for _, one := range []*reg.Registry{empty, r} {
			checkFind(t, one, word, api.Unit{}, why)
			checkConst(t, one, word, api.Const{}, why)
		}
	}
	for _, word := range []string{"M", "mm_", "metres", "kk", "kkm", "k", "kilo", "kibim", "light", "c", "kc", long(40)} {
		checkFind(t, r, word, api.Unit{}, api.ErrUnit)
	}
	for _, word := range []string{"m", "km", "kc", "kilolight", "Light", "C", "lightc", long(40)} {
		checkConst(t, r, word, api.Const{}, api.ErrName)
	}
	checkConst(t, r, "light", light(), api.OK)
	checkConst(t, r, "c", light(), api.OK)
}

// P8.5: a word is folded first.
func TestFindFolded(t *testing.T) {
	ohm := unit("ohm", "\u03a9", api.SiPrefix)
	r := with(t, metre(), ohm, unit("kelvin", "K", api.SiPrefix), unit("foot", "'", api.NoPrefix))
	checkWhy(t, "Keep", r.Keep(constant("ring", "\u00c5")), api.OK)
	micro := behind("micro", "\u03bc", api.Rat{Num: "1", Den: "1000000"}, metre())
	for _, word := range []string{"\u00b5m", "\u03bcm", "um", "micrometre"} {
		checkFind(t, r, word, micro, api.OK)
	}
	checkFind(t, r, "\u2126", ohm, api.OK)
	checkFind(t, r, "k\u2126", behind("kilo", "k", rat.Of(1000), ohm), api.OK)
	checkFind(t, r, "\u00b5\u2126", behind("micro", "\u03bc", api.Rat{Num: "1", Den: "1000000"}, ohm), api.OK)
	checkFind(t, r, "\u212a", unit("kelvin", "K", api.SiPrefix), api.OK)
	checkFind(t, r, "m\u212a", behind("milli", "m", api.Rat{Num: "1", Den: "1000"}, unit("kelvin", "K", api.SiPrefix)), api.OK)
	checkFind(t, r, "\u2032", unit("foot", "'", api.NoPrefix), api.OK)
	checkFind(t, r, "\u2019", unit("foot", "'", api.NoPrefix), api.OK)
	checkFind(t, r, "\u212b", api.Unit{}, api.ErrUnit)
	checkConst(t, r, "\u212b", constant("ring", "\u00c5"), api.OK)
}

// P8.5: two readings, also by two words of one unit; a word of the registry goes ahead of them.
func TestFindMixed(t *testing.T) {
	am := unit("am", "am", api.AnyPrefix)
	r := with(t, metre(), am)
	checkFind(t, r, "dam", api.Unit{}, api.ErrMixed)
	checkWhy(t, "Keep", r.Keep(constant("dam", "dm")), api.OK)
	checkFind(t, r, "dam", api.Unit{}, api.ErrUnit)
	checkFind(t, r, "dm", api.Unit{}, api.ErrUnit)
	checkWhy(t, "Drop", r.Drop("dam"), api.OK)
	checkFind(t, r, "dam", api.Unit{}, api.ErrMixed)
	checkWhy(t, "Alias", r.Alias("dam", "m"), api.OK)
	checkFind(t, r, "dam", metre(), api.OK)

	r = with(t, metre())
	deca := behind("deca", "da", rat.Of(10), metre())
	checkFind(t, r, "dam", deca, api.OK)
	checkWhy(t, "Alias", r.Alias("am", "m"), api.OK)
	checkFind(t, r, "dam", api.Unit{}, api.ErrMixed)
	checkFind(t, r, "decam", api.Unit{}, api.ErrUnit)
	checkFind(t, r, "decaam", deca, api.OK)
	checkFind(t, r, "daam", deca, api.OK)
	checkFind(t, r, "decametre", deca, api.OK)

	r = with(t, unit("x", "y", api.SiPrefix))
	checkWhy(t, "Alias", r.Alias("ilox", "x"), api.OK)
	checkFind(t, r, "kilox", api.Unit{}, api.ErrMixed)
	r = with(t, unit("x", "ilox", api.SiPrefix))
	checkFind(t, r, "kilox", behind("kilo", "k", rat.Of(1000), unit("x", "ilox", api.SiPrefix)), api.OK)
}

// P8.5: with prefixes of both kinds, all else as the unit has it.
func TestFindPrefixed(t *testing.T) {
	byte8 := api.Unit{Name: "byte", Symbol: "B", Dim: api.Dim{7: 1}, Factor: rat.Of(8), Offset: rat.Of(0), Takes: api.AnyPrefix}
	bit := unit("bit", "b", api.BinPrefix)
	third := unit("third", "th", api.SiPrefix)
	third.Factor, third.Dim = api.Rat{Num: "1", Den: "3"}, api.Dim{1, -2, 3, -4, 5, -6, 7, -8}
	r := with(t, byte8, bit, third)
	checkWhy(t, "Alias", r.Alias("octet", "B"), api.OK)
	checkFind(t, r, "KiB", behind("kibi", "Ki", rat.Of(1024), byte8), api.OK)
	checkFind(t, r, "kibibyte", behind("kibi", "Ki", rat.Of(1024), byte8), api.OK)
	checkFind(t, r, "mebioctet", behind("mebi", "Mi", rat.Of(1<<20), byte8), api.OK)
	checkFind(t, r, "Mioctet", behind("mebi", "Mi", rat.Of(1<<20), byte8), api.OK)
	checkFind(t, r, "kB", behind("kilo", "k", rat.Of(1000), byte8), api.OK)
	checkFind(t, r, "Kib", behind("kibi", "Ki", rat.Of(1024), bit), api.OK)
	checkFind(t, r, "kb", api.Unit{}, api.ErrUnit)
	checkFind(t, r, "mth", behind("milli", "m", api.Rat{Num: "1", Den: "1000"}, third), api.OK)
	checkFind(t, r, "Kith", api.Unit{}, api.ErrUnit)
	if u, _ := r.Find("KiB"); u.Factor != rat.Of(8192) {
		t.Error(u)
	}
}

// P8.5: a factor that is too large with its prefix, at the edge.
func TestFindLarge(t *testing.T) {
	u := unit("wide", "w", api.AnyPrefix)
	u.Factor = api.Rat{Num: "1" + strings.Repeat("0", 597), Den: "1"}
	r := with(t, u)
	checkFind(t, r, "w", u, api.OK)
	checkFind(t, r, "hw", behind("hecto", "h", rat.Of(100), u), api.OK)
	checkFind(t, r, "kw", api.Unit{}, api.ErrLarge)
	checkFind(t, r, "kilowide", api.Unit{}, api.ErrLarge)
	checkFind(t, r, "qw", behind("quecto", "q", api.Rat{Num: "1", Den: "1" + strings.Repeat("0", 30)}, u), api.OK)
	tiny := unit("tiny", "ti", api.SiPrefix)
	tiny.Factor = api.Rat{Num: "1", Den: "1" + strings.Repeat("0", 597)}
	r = with(t, tiny)
	checkFind(t, r, "cti", behind("centi", "c", api.Rat{Num: "1", Den: "100"}, tiny), api.OK)
	checkFind(t, r, "mti", api.Unit{}, api.ErrLarge)
}

// P8.6.
func TestLists(t *testing.T) {
	r := with(t, unit("beta", "b", 1), metre(), unit("Alpha", "a", 0), unit("\u03bc", "\u03bc", 3))
	checkWhy(t, "Keep", r.Keep(light()), api.OK)
	checkWhy(t, "Keep", r.Keep(constant("pi", "pi")), api.OK)
	checkWhy(t, "Alias", r.Alias("ab", "b"), api.OK)
	checkWhy(t, "Alias", r.Alias("B", "b"), api.OK)
	checkTexts(t, "Words", r.Words(), "Alpha", "B", "a", "ab", "b", "beta", "c", "light", "m", "metre", "pi", "\u03bc")
	checkTexts(t, "Alike", r.Alike(api.Dim{0, 1}), "b", "a", "\u03bc")
	checkTexts(t, "Alike", r.Alike(api.Dim{1}), "m")
	checkTexts(t, "Alike", r.Alike(api.Dim{}))
	checkTexts(t, "Alike", r.Alike(api.Dim{100}))
	if l := r.Units(); !slices.Equal(l, []api.Unit{unit("beta", "b", 1), metre(), unit("Alpha", "a", 0), unit("\u03bc", "\u03bc", 3)}) {
		t.Error(l)
	}
	if l := r.Consts(); !slices.Equal(l, []api.Const{light(), constant("pi", "pi")}) {
		t.Error(l)
	}
}

// P8.6: what is answered is new: nothing that is done with it is seen later.
func TestListsAreNew(t *testing.T) {
	r := with(t, unit("beta", "b", 1), metre())
	checkWhy(t, "Keep", r.Keep(light()), api.OK)
	m := &model{units: r.Units(), aliases: [][]string{nil, nil}, consts: r.Consts()}
	for range 2 {
		units, consts, words, alike := r.Units(), r.Consts(), r.Words(), r.Alike(api.Dim{1})
		for i := range units {
			units[i] = api.Unit{Name: "?"}
		}
		for i := range words {
			words[i] = "?"
		}
		consts[0], alike[0] = api.Const{Name: "?"}, "?"
		_, _ = append(units[:1], api.Unit{}), append(words[:1], "?")
		m.check(t, r, []string{"b", "m", "beta", "c", "?"})
	}
	kept := r.Units()
	checkWhy(t, "Drop", r.Drop("b"), api.OK)
	if !slices.Equal(kept, m.units) {
		t.Error("an answer has changed")
	}
}

// P8.7: each of its words finds it as it was added.
func TestFoundByEachWord(t *testing.T) {
	r := with(t, metre(), unit("gram", "g", 1))
	for n := range 8 {
		checkWhy(t, "Alias", r.Alias(numbered(n), []string{"m", "g"}[n%2]), api.OK)
	}
	for n := range 8 {
		want := []api.Unit{metre(), unit("gram", "g", 1)}[n%2]
		checkFind(t, r, numbered(n), want, api.OK)
		checkFind(t, r, "k"+numbered(n), behind("kilo", "k", rat.Of(1000), want), api.OK)
	}
}
