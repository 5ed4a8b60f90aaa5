package si_test

import (
	"slices"
	"strings"
	"sync"
	"testing"

	"cubit/api"
	"cubit/base"
	"cubit/dim"
	"cubit/rat"
	"cubit/reg"
	"cubit/si"
)

func checkUnits(t *testing.T) {
	t.Helper()
	got, want := si.Units(), table(t)
	if len(got) != len(want) {
		t.Errorf("Units() has %d", len(got))
		return
	}
	for i, u := range got {
		if u != want[i].unit {
			t.Errorf("at %d stands %v, not %v", i, u, want[i].unit)
		}
	}
}

func checkFind(t *testing.T, s string, want api.Unit, is bool) {
	t.Helper()
	if u, ok := si.Find(s); u != want || ok != is {
		t.Errorf("Find(%.60q) = %v, %v, not %v, %v", s, u, ok, want, is)
	}
}

func checkMade(t *testing.T, s string, want []api.Part, is bool) {
	t.Helper()
	if l, ok := si.Made(s); !slices.Equal(l, want) || ok != is {
		t.Errorf("Made(%.60q) = %v, %v, not %v, %v", s, l, ok, want, is)
	}
}

// P10.1.
func TestUnits(t *testing.T) {
	checkUnits(t)
	if l := si.Units(); l[7].Symbol != "\u03a9" {
		t.Error(l[7])
	}
}

// P10.1, P10.2: what is answered is new.
func TestAnswersAreNew(t *testing.T) {
	l := si.Units()
	for i := range l {
		l[i] = api.Unit{Name: "?"}
	}
	_ = append(si.Units()[:3], api.Unit{})
	checkUnits(t)
	parts, _ := si.Made("V")
	parts[0] = api.Part{Name: "?", Exp: 7}
	_ = append(parts[:1], api.Part{})
	checkMade(t, "V", []api.Part{{Name: "m", Exp: 2}, {Name: "kg", Exp: 1}, {Name: "s", Exp: -3}, {Name: "A", Exp: -1}}, true)
}

// P10.1, P10.2: whoever asks at one time is answered the same.
func TestAtOneTime(t *testing.T) {
	var all sync.WaitGroup
	for range 8 {
		all.Go(func() {
			checkUnits(t)
			checkMade(t, "byte", []api.Part{{Name: "b", Exp: 1}}, true)
		})
	}
	all.Wait()
}

// P10.1, P10.2: each by its name and by its symbol.
func TestFindAndMade(t *testing.T) {
	for _, o := range table(t) {
		for _, s := range []string{o.unit.Name, o.unit.Symbol} {
			checkFind(t, s, o.unit, true)
			checkMade(t, s, o.parts, true)
		}
	}
	if u, _ := si.Find("J"); u.Dim != (api.Dim{2, 1, -2}) {
		t.Error(u)
	}
	checkMade(t, "radian", nil, true)
}

// P10.1, P10.2: a name or a symbol, as it stands, without a prefix, and of no unit of another package.
func TestNothing(t *testing.T) {
	none := []string{"", " ", "kJ", "kilojoule", "mm", "m", "metre", "kg", "g", "s", "A", "K", "mol", "cd", "b", "bit", "\u2126", "Ohm", "OHM", "\u03c9", "j", "Joule", "joules", "J ", " J", "N m", "J\x00", "liter", "l", "hr", "sec", "degC", "\u00b0C", "celsius", "inch", "mi", "light", "KiB", "mL", "kat ", "Min", "D", "Ha", "HA", "hz", "HZ", "\xce", "\xa9", "\xff", "1", "in", "all", "force", "along", strings.Repeat("J", 1<<20)}
	for _, s := range none {
		checkFind(t, s, api.Unit{}, false)
		checkMade(t, s, nil, false)
	}
	for _, u := range base.Units() {
		checkFind(t, u.Name, api.Unit{}, false)
		checkMade(t, u.Symbol, nil, false)
	}
}

// P10.1, P10.2: of all texts of one and two bytes just the symbols are found.
func TestShort(t *testing.T) {
	symbols := map[string]one{}
	for _, o := range table(t) {
		symbols[o.unit.Symbol] = o
	}
	check := func(s string) {
		o, is := symbols[s]
		checkFind(t, s, o.unit, is)
		if is {
			checkMade(t, s, o.parts, true)
		}
	}
	for first := range 256 {
		check(string([]byte{byte(first)}))
		for second := range 256 {
			check(string([]byte{byte(first), byte(second)}))
		}
	}
}

// based: the base units and the kilogram, in a registry.
func based(t *testing.T) *reg.Registry {
	t.Helper()
	r := reg.New()
	for _, u := range base.Units() {
		if e := r.Add(u); e != api.OK {
			t.Fatal(u, e)
		}
	}
	return r
}

// P10.3: what a unit is follows from what it is made of; the first 21 are coherent.
func TestMadeOfParts(t *testing.T) {
	r := based(t)
	for i, u := range si.Units() {
		parts, ok := si.Made(u.Symbol)
		if !ok {
			t.Fatal(u)
		}
		d, factor := api.Dim{}, rat.Of(1)
		for _, p := range parts {
			part, e := r.Find(p.Name)
			if e != api.OK || p.Exp == 0 {
				t.Fatal(u, p, e)
			}
			power, _ := dim.Pow(part.Dim, p.Exp)
			d, _ = dim.Mul(d, power)
			by, _ := rat.Pow(part.Factor, p.Exp)
			factor, _ = rat.Mul(factor, by)
		}
		if d != u.Dim {
			t.Errorf("%s has the dimension %v, its parts %v", u.Name, u.Dim, d)
		}
		if i < 21 && (factor != u.Factor || factor != rat.Of(1)) {
			t.Errorf("%s has the factor %v, its parts %v", u.Name, u.Factor, factor)
		}
	}
}

// P10.3: the units as products of one another; a word behind a / divides.
func TestProducts(t *testing.T) {
	r := based(t)
	for _, u := range si.Units() {
		if e := r.Add(u); e != api.OK {
			t.Fatal(u, e)
		}
	}
	for _, text := range []string{
		"joule: newton metre", "watt: joule /second", "volt: watt /ampere", "ohm: volt /ampere", "weber: volt second", "henry: weber /ampere",
		"farad: coulomb /volt", "siemens: /ohm", "tesla: weber /metre /metre", "pascal: newton /metre /metre", "gray: joule /kilogram", "lux: lumen /metre /metre",
	} {
		name, is, _ := strings.Cut(text, ":")
		d, factor := api.Dim{}, rat.Of(1)
		for _, word := range strings.Fields(is) {
			word, divides := strings.CutPrefix(word, "/")
			u, e := r.Find(word)
			if e != api.OK {
				t.Fatal(word, e)
			}
			if divides {
				d, _ = dim.Quo(d, u.Dim)
				factor, _ = rat.Quo(factor, u.Factor)
			} else {
				d, _ = dim.Mul(d, u.Dim)
				factor, _ = rat.Mul(factor, u.Factor)
			}
		}
		if u := named(t, name); u.Dim != d || u.Factor != factor {
			t.Errorf("%s is %v, not %v, %v", name, u, d, factor)
		}
	}
}

// P3: beside the base units each is right, no name is two things, and with prefixes they are what they should be.
func TestRegistry(t *testing.T) {
	r := based(t)
	for _, u := range si.Units() {
		if e := r.Add(u); e != api.OK {
			t.Errorf("%s is refused: %d", u.Name, e)
		}
	}
	for word, want := range map[string]string{"KiB": "8192", "mL": "1/1000000", "kt": "1000000", "mbar": "100", "hPa": "100", "min": "60", "cd": "1", "k\u2126": "1000"} {
		u, e := r.Find(word)
		if text, _ := rat.Print(u.Factor); e != api.OK || text != want {
			t.Errorf("Find(%q) = %v, %d", word, u, e)
		}
	}
	for _, word := range []string{"kh", "kmin", "kd", "kha", "KiJ", "KiL"} {
		if u, e := r.Find(word); e != api.ErrUnit {
			t.Errorf("Find(%q) = %v, %d", word, u, e)
		}
	}
}
