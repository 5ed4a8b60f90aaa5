package temps_test

import (
	"slices"
	"sync"
	"testing"

	"cubit/api"
	"cubit/base"
	"cubit/rat"
	"cubit/reg"
	"cubit/si"
	"cubit/temps"
)

func checkUnits(t *testing.T) {
	t.Helper()
	got, want := temps.Units(), table(t)
	if !slices.Equal(got, want) {
		t.Errorf("Units() = %v, not %v", got, want)
	}
}

func checkFind(t *testing.T, s string, want api.Unit, is bool) {
	t.Helper()
	if u, ok := temps.Find(s); u != want || ok != is {
		t.Errorf("Find(%.60q) = %v, %v, not %v, %v", s, u, ok, want, is)
	}
}

// P12.1.
func TestUnits(t *testing.T) { checkUnits(t) }

// P12.1: what is answered is new.
func TestUnitsAreNew(t *testing.T) {
	l := temps.Units()
	for i := range l {
		l[i] = api.Unit{Name: "?"}
	}
	_ = append(temps.Units()[:1], api.Unit{})
	checkUnits(t)
	u, _ := temps.Find(degC)
	u.Dim[4] = 7
	checkUnits(t)
}

// P12.1 to P12.3: whoever asks at one time is answered the same.
func TestAtOneTime(t *testing.T) {
	var together sync.WaitGroup
	for range 8 {
		together.Go(func() {
			checkUnits(t)
			checkTo(t, rat.Of(100), degC, degF, rat.Of(212), api.OK)
			checkFixed(t, "ice", degF, rat.Of(32), api.OK)
		})
	}
	together.Wait()
}

// P12.1: each by its name and by its symbol; the kelvin is none of them.
func TestFind(t *testing.T) {
	for _, u := range table(t) {
		checkFind(t, u.Name, u, true)
		checkFind(t, u.Symbol, u, true)
	}
	for _, s := range append(wrong(), "K", "kelvin") {
		checkFind(t, s, api.Unit{}, false)
	}
	for _, l := range [][]api.Unit{base.Units(), si.Units()} {
		for _, u := range l {
			checkFind(t, u.Name, api.Unit{}, false)
			checkFind(t, u.Symbol, api.Unit{}, false)
		}
	}
}

// P12.1: no text of one or two bytes is one; of three just the symbols.
func TestFindShort(t *testing.T) {
	for first := range 256 {
		checkFind(t, string([]byte{byte(first)}), api.Unit{}, false)
		for second := range 256 {
			checkFind(t, string([]byte{byte(first), byte(second)}), api.Unit{}, false)
		}
		word := "\u00b0" + string([]byte{byte(first)})
		n := slices.IndexFunc(table(t), func(u api.Unit) bool { return u.Symbol == word })
		if n < 0 {
			checkFind(t, word, api.Unit{}, false)
		} else {
			checkFind(t, word, table(t)[n], true)
		}
	}
}

// P3: beside the units of the packages ahead each is right, and no name is two things; Dim is that of the kelvin.
func TestRegistry(t *testing.T) {
	r := reg.New()
	for _, l := range [][]api.Unit{base.Units(), si.Units(), temps.Units()} {
		for _, u := range l {
			if e := r.Add(u); e != api.OK {
				t.Errorf("%s is refused: %d", u.Name, e)
			}
		}
	}
	kelvin, _ := base.Find("K")
	for _, u := range temps.Units() {
		if u.Dim != kelvin.Dim {
			t.Error(u)
		}
		if _, e := r.Find("kilo" + u.Name); e != api.ErrUnit {
			t.Errorf("%s takes a prefix: %d", u.Name, e)
		}
	}
}
