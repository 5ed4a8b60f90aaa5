package base_test

import (
	"slices"
	"strings"
	"sync"
	"testing"

	"cubit/api"
	"cubit/base"
	"cubit/rat"
	"cubit/reg"
)

// table: the chapter's second table, its rows as units.
func table(t testing.TB) []api.Unit {
	t.Helper()
	thousandth, e := rat.New("1", "1000")
	if e != api.OK {
		t.Fatal(e)
	}
	unit := func(name, symbol string, d api.Dim, factor api.Rat, takes int) api.Unit {
		return api.Unit{Name: name, Symbol: symbol, Dim: d, Factor: factor, Offset: rat.Of(0), Takes: takes}
	}
	return []api.Unit{
		unit("bit", "b", api.Dim{0, 0, 0, 0, 0, 0, 0, 1}, rat.Of(1), api.AnyPrefix),
		unit("mole", "mol", api.Dim{0, 0, 0, 0, 0, 1}, rat.Of(1), api.SiPrefix),
		unit("second", "s", api.Dim{0, 0, 1}, rat.Of(1), api.SiPrefix),
		unit("ampere", "A", api.Dim{0, 0, 0, 1}, rat.Of(1), api.SiPrefix),
		unit("metre", "m", api.Dim{1}, rat.Of(1), api.SiPrefix),
		unit("gram", "g", api.Dim{0, 1}, thousandth, api.SiPrefix),
		unit("candela", "cd", api.Dim{0, 0, 0, 0, 0, 0, 1}, rat.Of(1), api.SiPrefix),
		unit("kelvin", "K", api.Dim{0, 0, 0, 0, 1}, rat.Of(1), api.SiPrefix),
	}
}

func checkUnits(t *testing.T) {
	t.Helper()
	got, want := base.Units(), table(t)
	if !slices.Equal(got, want) {
		t.Errorf("Units() = %v, not %v", got, want)
	}
}

func checkFind(t *testing.T, s string, want api.Unit, is bool) {
	t.Helper()
	if u, ok := base.Find(s); u != want || ok != is {
		t.Errorf("Find(%.60q) = %v, %v, not %v, %v", s, u, ok, want, is)
	}
}

// P9.1.
func TestUnits(t *testing.T) { checkUnits(t) }

// P9.1: what is answered is new.
func TestUnitsAreNew(t *testing.T) {
	l := base.Units()
	for i := range l {
		l[i] = api.Unit{Name: "?"}
	}
	_ = append(base.Units()[:3], api.Unit{})
	checkUnits(t)
	u, _ := base.Find("m")
	u.Dim[0] = 7
	checkUnits(t)
}

// P9.1: whoever asks at one time is answered the same.
func TestAtOneTime(t *testing.T) {
	var all sync.WaitGroup
	for range 8 {
		all.Go(func() {
			checkUnits(t)
			checkFind(t, "kelvin", table(t)[7], true)
		})
	}
	all.Wait()
}

// P9.1.
func TestFind(t *testing.T) {
	for _, u := range table(t) {
		checkFind(t, u.Name, u, true)
		checkFind(t, u.Symbol, u, true)
	}
	metre := table(t)[4]
	if u, ok := base.Find("metre"); !ok || u != metre || u.Dim != (api.Dim{1}) {
		t.Error(u)
	}
}

// P9.1: a name or a symbol, as it stands, without a prefix, and of no other unit.
func TestFindNothing(t *testing.T) {
	none := []string{"", " ", "kg", "kilogram", "km", "ms", "Kibit", "Mb", "kmol", "metres", "meter", "Metre", "METRE", "M", "S", "a", "k", "G", "B", "byte", "N", "J", "rad", "min", "CD", "Cd", "c", "d", "mo", "MOL", "\u212a", "m ", " m", "m\x00", "mm", "sm", "bit b", "b\nbit", "\xff", "1", "L", "T", "in", "\u00b0C", "light", strings.Repeat("m", 1<<20)}
	for _, s := range none {
		checkFind(t, s, api.Unit{}, false)
	}
}

// P9.1: of all texts of one and two bytes just the symbols are found.
func TestFindShort(t *testing.T) {
	symbols := map[string]api.Unit{}
	for _, u := range table(t) {
		symbols[u.Symbol] = u
	}
	for first := range 256 {
		one := string([]byte{byte(first)})
		u, is := symbols[one]
		checkFind(t, one, u, is)
		for second := range 256 {
			two := one + string([]byte{byte(second)})
			u, is := symbols[two]
			checkFind(t, two, u, is)
		}
	}
}

// P9.2.
func TestDimensions(t *testing.T) {
	var seen api.Dim
	for _, u := range base.Units() {
		together := 0
		for place, exp := range u.Dim {
			seen[place] += exp
			together += max(exp, -exp)
		}
		if together != 1 {
			t.Errorf("%s is of no base dimension: %v", u.Name, u.Dim)
		}
		if (u.Factor == rat.Of(1)) == (u.Name == "gram") {
			t.Errorf("%s has the factor %v", u.Name, u.Factor)
		}
		if u.Offset != rat.Of(0) {
			t.Errorf("%s is a scale", u.Name)
		}
	}
	if seen != (api.Dim{1, 1, 1, 1, 1, 1, 1, 1}) {
		t.Error(seen)
	}
}

// P3: each is right, no name is two things, and with prefixes they are what they should be.
func TestRegistry(t *testing.T) {
	r := reg.New()
	for _, u := range base.Units() {
		if e := r.Add(u); e != api.OK {
			t.Errorf("%s is refused: %d", u.Name, e)
		}
	}
	if u, e := r.Find("kg"); e != api.OK || u.Name != "kilogram" || u.Factor != rat.Of(1) {
		t.Error(u, e)
	}
	if u, e := r.Find("Kib"); e != api.OK || u.Factor != rat.Of(1024) {
		t.Error(u, e)
	}
}
