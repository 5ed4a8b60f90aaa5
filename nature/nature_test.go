package nature_test

import (
	"slices"
	"strconv"
	"strings"
	"sync"
	"testing"

	"cubit/api"
	"cubit/base"
	"cubit/dim"
	"cubit/nature"
	"cubit/rat"
	"cubit/reg"
	"cubit/si"
	"cubit/temps"
	"cubit/trad"
)

func number(t testing.TB, s string) api.Rat {
	t.Helper()
	r, e, at := rat.Parse(s)
	if e != api.OK {
		t.Fatal(s, e, at)
	}
	return r
}

// table: the chapter's second table; the numbers that are products of others are worked out by hand.
func table(t testing.TB) []api.Const {
	t.Helper()
	row := func(name, symbol, value, unit, spread string) api.Const {
		return api.Const{Name: name, Symbol: symbol, Value: number(t, value), Spread: number(t, spread), Unit: unit}
	}
	return []api.Const{
		row("avogadro", "navo", "6.02214076e23", "mol^-1", "0"),
		row("boltzmann", "kboltz", "1.380649e-23", "m^2 kg s^-2 K^-1", "0"),
		row("gas", "rgas", "207861565453831/25000000000000", "m^2 kg s^-2 K^-1 mol^-1", "0"),
		row("charge", "echarge", "1.602176634e-19", "A s", "0"),
		row("faraday", "ffar", "96485.3321233100184", "A s mol^-1", "0"),
		row("electron", "melec", "9.1093837015e-31", "kg", "2.8e-40"),
		row("gravitation", "ggrav", "6.67430e-11", "m^3 kg^-1 s^-2", "1.5e-15"),
		row("gravity", "gearth", "9.80665", "m s^-2", "0"),
		row("light", "clight", "299792458", "m s^-1", "0"),
		row("planck", "hplanck", "6.62607015e-34", "m^2 kg s^-1", "0"),
		row("josephson", "kjos", "21362355120000000000000/44173801", "m^-2 kg^-1 s^2 A", "0"),
		row("klitzing", "rklitz", "5521725125000000000000/213914163877964163", "m^2 kg s^-3 A^-2", "0"),
		row("proton", "mprot", "1.67262192369e-27", "kg", "5.1e-37"),
	}
}

func checkAll(t *testing.T) {
	t.Helper()
	got, want := nature.All(), table(t)
	if len(got) != len(want) {
		t.Errorf("All() has %d", len(got))
		return
	}
	for i, c := range got {
		if c != want[i] {
			t.Errorf("at %d stands %v, not %v", i, c, want[i])
		}
	}
}

func checkFind(t *testing.T, s string, want api.Const, is bool) {
	t.Helper()
	if c, ok := nature.Find(s); c != want || ok != is {
		t.Errorf("Find(%.60q) = %v, %v, not %v, %v", s, c, ok, want, is)
	}
}

// value: of a constant by its name.
func value(t *testing.T, name string) api.Rat {
	t.Helper()
	c, ok := nature.Find(name)
	if !ok || c.Name != name {
		t.Fatal(name, c, ok)
	}
	return c.Value
}

// P13.1: again and again, as a map tells its own in another order each time.
func TestAll(t *testing.T) {
	for range 20 {
		checkAll(t)
	}
}

// P13.1: what is answered is new.
func TestAllIsNew(t *testing.T) {
	l := nature.All()
	for i := range l {
		l[i] = api.Const{Name: "?"}
	}
	_ = append(nature.All()[:3], api.Const{})
	checkAll(t)
}

// P13.1: whoever asks at one time is answered the same.
func TestAtOneTime(t *testing.T) {
	var all sync.WaitGroup
	for range 8 {
		all.Go(func() {
			checkAll(t)
			checkFind(t, "mprot", table(t)[12], true)
		})
	}
	all.Wait()
}

// P13.1: each by its name and by its symbol; the chapter's examples.
func TestFind(t *testing.T) {
	for _, c := range table(t) {
		checkFind(t, c.Name, c, true)
		checkFind(t, c.Symbol, c, true)
	}
	checkFind(t, "light", api.Const{Name: "light", Symbol: "clight", Value: rat.Of(299792458), Spread: rat.Of(0), Unit: "m s^-1"}, true)
	if c, _ := nature.Find("rgas"); c.Value != (api.Rat{Num: "207861565453831", Den: "25000000000000"}) {
		t.Error(c)
	}
	checkFind(t, "pi", api.Const{}, false)
}

// P13.1: a name or a symbol, as it stands, and of no unit.
func TestFindNothing(t *testing.T) {
	for _, s := range []string{"", " ", "Light", "LIGHT", "light ", " light", "lights", "ligh", "c", "e", "h", "k", "g", "G", "R", "F", "NA", "kB", "navo ", "Navo", "kilolight", "kclight", "light clight", "clight\x00", "\xff", "none", "nature.go", "faradayMade", "299792458", "m s^-1", "mol^-1", "0", strings.Repeat("light", 1<<18)} {
		checkFind(t, s, api.Const{}, false)
	}
	for _, l := range [][]api.Unit{base.Units(), si.Units(), temps.Units(), trad.Units()} {
		for _, u := range l {
			checkFind(t, u.Name, api.Const{}, false)
			checkFind(t, u.Symbol, api.Const{}, false)
		}
	}
}

// P13.2: those that are made of others are so exactly.
func TestMadeOfOthers(t *testing.T) {
	product := func(l ...api.Rat) api.Rat {
		p, e := rat.Prod(l...)
		if e != api.OK {
			t.Fatal(e)
		}
		return p
	}
	by := func(a, b api.Rat) api.Rat {
		q, e := rat.Quo(a, b)
		if e != api.OK {
			t.Fatal(e)
		}
		return q
	}
	avogadro, boltzmann, charge, planck := value(t, "avogadro"), value(t, "boltzmann"), value(t, "charge"), value(t, "planck")
	for name, want := range map[string]api.Rat{
		"gas":       product(boltzmann, avogadro),
		"faraday":   product(charge, avogadro),
		"josephson": by(product(charge, rat.Of(2)), planck),
		"klitzing":  by(planck, product(charge, charge)),
	} {
		if got := value(t, name); got != want {
			t.Errorf("%s is %v, not %v", name, got, want)
		}
	}
}

// P13.2: all but three are without spread.
func TestSpreads(t *testing.T) {
	for _, c := range nature.All() {
		exact := !slices.Contains([]string{"electron", "gravitation", "proton"}, c.Name)
		if (c.Spread == rat.Of(0)) != exact || !rat.Right(c.Spread) || !rat.Right(c.Value) {
			t.Error(c)
		}
	}
}

// dimension: of a unit's text, part by part.
func dimension(t *testing.T, unit string) api.Dim {
	t.Helper()
	d := api.Dim{}
	for _, word := range strings.Split(unit, " ") {
		symbol, power, raised := strings.Cut(word, "^")
		exp := 1
		if raised {
			exp, _ = strconv.Atoi(power)
		}
		at := slices.Index(strings.Fields("m kg s A K mol cd b"), symbol)
		if at < 0 || exp == 0 || raised && exp == 1 || d[at] != 0 {
			t.Fatal(unit)
		}
		d[at] = exp
	}
	return d
}

// P13.2: the units go together as the numbers do, and say what the constants are.
func TestUnits(t *testing.T) {
	of := func(name string) api.Dim {
		c, _ := nature.Find(name)
		return dimension(t, c.Unit)
	}
	same := func(name string, want api.Dim, e api.Errno) {
		if got := of(name); got != want || e != api.OK {
			t.Errorf("the dimension of %s is %v, not %v, %d", name, got, want, e)
		}
	}
	gas, e := dim.Mul(of("boltzmann"), of("avogadro"))
	same("gas", gas, e)
	faraday, e := dim.Mul(of("charge"), of("avogadro"))
	same("faraday", faraday, e)
	josephson, e := dim.Quo(of("charge"), of("planck"))
	same("josephson", josephson, e)
	square, _ := dim.Pow(of("charge"), 2)
	klitzing, e := dim.Quo(of("planck"), square)
	same("klitzing", klitzing, e)
	for name, kind := range map[string]string{"boltzmann": "entropy", "charge": "charge", "electron": "mass", "proton": "mass", "gravity": "acceleration", "light": "speed", "planck": "action", "klitzing": "resistance"} {
		if got, ok := dim.Kind(of(name)); got != kind || !ok {
			t.Errorf("%s is of the kind %s, not %s", name, got, kind)
		}
	}
}

// P3: beside the units of the packages ahead each is right, and no name is two things.
func TestRegistry(t *testing.T) {
	r := reg.New()
	for _, l := range [][]api.Unit{base.Units(), si.Units(), temps.Units(), trad.Units()} {
		for _, u := range l {
			if e := r.Add(u); e != api.OK {
				t.Errorf("%s is refused: %d", u.Name, e)
			}
		}
	}
	for _, c := range nature.All() {
		if e := r.Keep(c); e != api.OK {
			t.Errorf("%s is refused: %d", c.Name, e)
		}
	}
	if len(r.Consts()) != 13 {
		t.Error(r.Consts())
	}
}
