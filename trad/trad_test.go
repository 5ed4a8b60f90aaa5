package trad_test

import (
	"strings"
	"sync"
	"testing"

	"cubit/api"
	"cubit/base"
	"cubit/rat"
	"cubit/reg"
	"cubit/si"
	"cubit/temps"
	"cubit/trad"
)

func checkUnits(t *testing.T) {
	t.Helper()
	got, want := trad.Units(), table(t)
	if len(got) != len(want) {
		t.Errorf("Units() has %d", len(got))
		return
	}
	for i, u := range got {
		if u != want[i].unit {
			t.Errorf("at %d stands %v, not %v", i, u, want[i].unit)
		}
	}
}

func checkFind(t *testing.T, s string, want api.Unit, is bool) {
	t.Helper()
	if u, ok := trad.Find(s); u != want || ok != is {
		t.Errorf("Find(%.60q) = %v, %v, not %v, %v", s, u, ok, want, is)
	}
}

// P11.1.
func TestUnits(t *testing.T) { checkUnits(t) }

// P11.1: what is answered is new.
func TestUnitsAreNew(t *testing.T) {
	l := trad.Units()
	for i := range l {
		l[i] = api.Unit{Name: "?"}
	}
	_ = append(trad.Units()[:3], api.Unit{})
	checkUnits(t)
	u, _ := trad.Find("mi")
	u.Dim[0] = 7
	checkUnits(t)
}

// P11.1: whoever asks at one time is answered the same.
func TestAtOneTime(t *testing.T) {
	var all sync.WaitGroup
	for range 8 {
		all.Go(func() {
			checkUnits(t)
			checkFind(t, "torr", table(t)[21].unit, true)
		})
	}
	all.Wait()
}

// P11.1: each by its name and by its symbol.
func TestFind(t *testing.T) {
	for _, o := range table(t) {
		checkFind(t, o.unit.Name, o.unit, true)
		checkFind(t, o.unit.Symbol, o.unit, true)
	}
}

// P11.1: a name or a symbol, as it stands, without a prefix, and of no unit of another package.
func TestFindNothing(t *testing.T) {
	none := []string{"", " ", "kmi", "kilomile", "kcal", "kilocalorie", "mmi", "mtorr", "in", "feet", "inches", "miles", "Mile", "MILE", "Mi", "MI", "Inch", "FT", "Ft", "HP", "hP", "TORR", "torrs", "mile ", " mile", "mi\x00", "mi mile", "ft^2", "\u2032", "\u2033", "'", "\"", "\xff", "1", "horse", "horse power", "pound force", "lb f", "tonne", "t", "celsius", "\u00b0C", "\u00b0R", "light", "kilogram", "kg", "none", "long.go", strings.Repeat("mi", 1<<20)}
	for _, s := range none {
		checkFind(t, s, api.Unit{}, false)
	}
	for _, l := range [][]api.Unit{base.Units(), si.Units()} {
		for _, u := range l {
			checkFind(t, u.Name, api.Unit{}, false)
			checkFind(t, u.Symbol, api.Unit{}, false)
		}
	}
}

// P11.1: of all texts of one and two bytes just the symbols are found.
func TestFindShort(t *testing.T) {
	symbols := map[string]api.Unit{}
	for _, o := range table(t) {
		symbols[o.unit.Symbol] = o.unit
	}
	for first := range 256 {
		one := string([]byte{byte(first)})
		checkFind(t, one, api.Unit{}, false)
		for second := range 256 {
			two := one + string([]byte{byte(second)})
			u, is := symbols[two]
			checkFind(t, two, u, is)
		}
	}
}

// P11.2: each unit is what the table's column "is" says of the others.
func TestIs(t *testing.T) {
	for _, o := range table(t) {
		u := named(t, o.unit.Name)
		if d, factor := product(t, o.is); d != u.Dim || factor != u.Factor {
			t.Errorf("%s is %v, not %v, %v", u.Name, u, d, factor)
		}
	}
}

// P11.2: and what follows of them.
func TestFollows(t *testing.T) {
	for _, text := range []string{
		"mile: 5280 foot", "mile: 63360 inch", "mile: 880 fathom", "foot: 3 hand", "yard: 36 inch", "acre: 4840 yard^2", "mile^2: 640 acre", "gallon: 8 pint",
		"pound: 16 ounce", "pound: 7000 grain", "stone: 98000 grain", "ton: 32000 ounce", "atmosphere: 760 torr", "knot hour: nautical", "psi foot^2: 144 poundforce",
		"horsepower minute: 33000 foot poundforce",
	} {
		left, right, _ := strings.Cut(text, ":")
		d, factor := product(t, strings.Fields(left))
		if e, other := product(t, strings.Fields(right)); d != e || factor != other {
			t.Errorf("%s: %v, %v, and %v, %v", text, d, factor, e, other)
		}
	}
}

// P3: beside the units of the packages ahead each is right, no name is two things, and none takes a prefix.
func TestRegistry(t *testing.T) {
	r := reg.New()
	for _, l := range [][]api.Unit{base.Units(), si.Units(), temps.Units(), trad.Units()} {
		for _, u := range l {
			if e := r.Add(u); e != api.OK {
				t.Errorf("%s is refused: %d", u.Name, e)
			}
		}
	}
	for _, u := range trad.Units() {
		if u.Offset != rat.Of(0) || u.Takes != api.NoPrefix {
			t.Error(u)
		}
		for _, word := range []string{"kilo" + u.Name, "M" + u.Symbol, "Ki" + u.Symbol} {
			if got, e := r.Find(word); e != api.ErrUnit {
				t.Errorf("Find(%q) = %v, %d", word, got, e)
			}
		}
		if got, e := r.Find(u.Symbol); e != api.OK || got != u {
			t.Errorf("Find(%q) = %v, %d", u.Symbol, got, e)
		}
	}
}
