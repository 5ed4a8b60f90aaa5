package decl_test

import (
	"math"
	"math/rand"
	"slices"
	"strings"
	"testing"

	"cubit/api"
	"cubit/decl"
	"cubit/house"
	"cubit/rat"
)

func checkRight(t *testing.T, d api.Decl, why api.Errno) {
	t.Helper()
	if got := decl.Right(d); got != why {
		t.Errorf("Right(%s) = %d, not %d", short(d), got, why)
	}
	// Chapter 16 leans on the same words.
	_, e, _ := house.Build([]api.Decl{d})
	if (e == api.ErrForm) != (why != api.OK) {
		t.Errorf("house.Build(%s) = %d, and Right should say %d", short(d), e, why)
	}
}

// P17.1: each kind, as it should be.
func TestRight(t *testing.T) {
	for kind := api.DBase; kind <= api.DConst; kind++ {
		checkRight(t, sample(kind), api.OK)
	}
	r := rand.New(rand.NewSource(171))
	for range 2000 {
		checkRight(t, chance(r), api.OK)
	}
	for _, kind := range []int{0, 7, -1, math.MinInt, math.MaxInt, 1 << 32, 1<<32 + 1} {
		checkRight(t, api.Decl{Kind: kind}, api.ErrArg)
		d := sample(api.DUnit)
		d.Kind, d.Name = kind, ""
		checkRight(t, d, api.ErrArg)
	}
}

// fault: something that may be wrong about a field; the error, if a kind has the field.
type fault struct {
	field string
	why   api.Errno
	make  func(*api.Decl)
}

// faults: in the order in which they are told.
func faults() []fault {
	wrong := api.Rat{Num: "2", Den: "4"}
	long := make([]api.Part, 65)
	for i := range long {
		long[i] = api.Part{Name: "m", Exp: 1}
	}
	return []fault{
		{"Name", api.ErrName, func(d *api.Decl) { d.Name = "1a" }},
		{"Symbol", api.ErrName, func(d *api.Decl) { d.Symbol = "in" }},
		{"Of", api.ErrName, func(d *api.Decl) { d.Of = "\u00b5" }},
		{"Factor", api.ErrForm, func(d *api.Decl) { d.Factor = wrong }},
		{"Offset", api.ErrForm, func(d *api.Decl) { d.Offset = wrong }},
		{"Spread", api.ErrForm, func(d *api.Decl) { d.Spread = wrong }},
		{"Factor", api.ErrZero, func(d *api.Decl) { d.Factor = rat.Of(0) }},
		{"Factor", api.ErrBelow, func(d *api.Decl) { d.Factor = rat.Of(-1) }},
		{"Spread", api.ErrBelow, func(d *api.Decl) { d.Spread = rat.Of(-1) }},
		{"Dim", api.ErrDim, func(d *api.Decl) { d.Dim = api.Dim{1, 1} }},
		{"Parts", api.ErrSize, func(d *api.Decl) { d.Parts = slices.Concat(d.Parts, long) }},
		{"Parts", api.ErrName, func(d *api.Decl) { d.Parts = slices.Concat(d.Parts, []api.Part{{Name: "m^2", Exp: 1}}) }},
		{"Parts", api.ErrExp, func(d *api.Decl) { d.Parts = slices.Concat([]api.Part{{Name: "m", Exp: 100}}, d.Parts) }},
		{"Takes", api.ErrArg, func(d *api.Decl) { d.Takes = 4 }},
	}
}

// P17.1: each fault alone, and each two of them, at all kinds: the one that is told first; in a field that the kind has not, the last of all.
func TestFaults(t *testing.T) {
	for kind := api.DBase; kind <= api.DConst; kind++ {
		told := func(f fault) api.Errno {
			switch {
			case !slices.Contains(fieldsOf(kind), f.field):
				return api.ErrForm
			case kind == api.DConst && f.field == "Factor" && f.why != api.ErrForm:
				return api.OK
			}
			return f.why
		}
		for i, first := range faults() {
			d := sample(kind)
			first.make(&d)
			checkRight(t, d, told(first))
			for _, second := range faults()[i+1:] {
				if first.field == second.field && first.field != "Parts" {
					continue
				}
				d := sample(kind)
				first.make(&d)
				second.make(&d)
				want := told(first)
				if !slices.Contains(fieldsOf(kind), first.field) || want == api.OK {
					want = told(second)
				}
				if want == api.OK {
					want = told(first)
				}
				checkRight(t, d, want)
			}
		}
	}
}

// P17.1: names and symbols.
func TestWords(t *testing.T) {
	right := []string{"a", "\u03bcm", "%", "\u00b0", "\u00b0C", "K", "in2", "In", "_", strings.Repeat("x", 40), strings.Repeat("\u03a9", 20), "base", "si"}
	wrong := []string{"", "in", "1", "a b", "a\n", "a\t", "#", "\u00b5m", "\u212a", "m^2", "m\u00b2", "%%", "\u00b01", "\xff", "a\xff", strings.Repeat("x", 41), strings.Repeat("\u03a9", 21), "a-b", " a", "a "}
	for kind := api.DBase; kind <= api.DConst; kind++ {
		for _, word := range slices.Concat(right, wrong) {
			why := api.OK
			if slices.Contains(wrong, word) {
				why = api.ErrName
			}
			for _, put := range []func(*api.Decl){
				func(d *api.Decl) { d.Name = word },
				func(d *api.Decl) { d.Symbol = word },
				func(d *api.Decl) { d.Of = word },
				func(d *api.Decl) { d.Parts = []api.Part{{Name: "m", Exp: 1}, {Name: word, Exp: 2}} },
			} {
				d := sample(kind)
				put(&d)
				d = kept(d)
				want := why
				if same(d, sample(kind)) {
					want = api.OK
				}
				checkRight(t, d, want)
			}
		}
	}
}

// P17.1: numbers.
func TestNumbers(t *testing.T) {
	nines := strings.Repeat("9", 600)
	for _, c := range []struct {
		num, den             string
		factor, value, other api.Errno // of a unit, of a constant, of a spread; an offset is as a value
	}{
		{"1", "1", 0, 0, 0}, {nines, "1", 0, 0, 0}, {"1", nines, 0, 0, 0}, {"0", "1", api.ErrZero, 0, 0}, {"-1", "1", api.ErrBelow, 0, api.ErrBelow}, {"-1", nines, api.ErrBelow, 0, api.ErrBelow},
		{"", "", 3, 3, 3}, {"1", "", 3, 3, 3}, {"", "1", 3, 3, 3}, {"1", "0", 3, 3, 3}, {"-0", "1", 3, 3, 3}, {"0", "2", 3, 3, 3}, {"2", "4", 3, 3, 3}, {"01", "1", 3, 3, 3}, {"1", "-1", 3, 3, 3}, {"+1", "1", 3, 3, 3}, {"1e3", "1", 3, 3, 3}, {"1" + nines, "1", 3, 3, 3}, {"1", "1" + nines, 3, 3, 3}, {"\xff", "1", 3, 3, 3}, {" 1", "1", 3, 3, 3},
	} {
		n := api.Rat{Num: c.num, Den: c.den}
		for kind := api.DBase; kind <= api.DConst; kind++ {
			d := sample(kind)
			d.Factor = n
			switch kind {
			case api.DAlias:
				why := api.ErrForm
				if n == (api.Rat{}) {
					why = api.OK
				}
				checkRight(t, d, why)
			case api.DConst:
				checkRight(t, d, c.value)
				d = sample(kind)
				d.Spread = n
				checkRight(t, d, c.other)
			default:
				checkRight(t, d, c.factor)
			}
		}
		d := sample(api.DScale)
		d.Offset = n
		checkRight(t, d, c.value)
	}
}

// P17.1: of a base unit just one exponent, and that one 1.
func TestDims(t *testing.T) {
	for place := range 8 {
		for _, exp := range []int{1, 0, 2, -1, 99, -99, 100, math.MaxInt, math.MinInt, 1<<32 + 1} {
			d := sample(api.DBase)
			d.Dim = api.Dim{}
			d.Dim[place] = exp
			why := api.ErrDim
			if exp == 1 {
				why = api.OK
			}
			checkRight(t, d, why)
			for other := range 8 {
				if other != place {
					for _, more := range []int{1, -1, 100} {
						two := d
						two.Dim[other] = more
						if exp != 0 || more != 1 {
							why = api.ErrDim
						} else {
							why = api.OK
						}
						checkRight(t, two, why)
					}
				}
			}
		}
	}
}

// P17.1: parts: how many, and their exponents; all names go ahead of all exponents.
func TestParts(t *testing.T) {
	for _, kind := range []int{api.DUnit, api.DConst} {
		for _, exp := range []int{1, -1, 99, -99, 0, 100, -100, math.MaxInt, math.MinInt, 1 << 32, 1<<32 + 1} {
			for _, n := range []int{1, 2, 64, 65, 200} {
				d := sample(kind)
				d.Parts = nil
				for range n {
					d.Parts = append(d.Parts, api.Part{Name: "m", Exp: 1})
				}
				d.Parts[n-1].Exp = exp
				why := api.OK
				if n > 64 {
					why = api.ErrSize
				} else if exp == 0 || exp > 99 || exp < -99 {
					why = api.ErrExp
				}
				checkRight(t, d, why)
			}
		}
		d := sample(kind)
		for _, none := range [][]api.Part{nil, {}} {
			d.Parts = none
			checkRight(t, d, api.OK)
		}
		d.Parts = []api.Part{{Name: "m", Exp: 0}, {Name: "", Exp: 1}}
		checkRight(t, d, api.ErrName)
	}
	for _, kind := range []int{api.DBase, api.DScale, api.DAlias, api.DPrefix} {
		d := sample(kind)
		d.Parts = []api.Part{}
		checkRight(t, d, api.OK)
		d.Parts = []api.Part{{}}
		checkRight(t, d, api.ErrForm)
	}
}

// P17.1.
func TestTakes(t *testing.T) {
	for kind := api.DBase; kind <= api.DConst; kind++ {
		for _, takes := range []int{0, 1, 2, 3, 4, -1, math.MaxInt, math.MinInt, 1 << 32, 1<<32 + 1} {
			d := sample(kind)
			d.Takes = takes
			why := api.OK
			switch kind {
			case api.DBase, api.DUnit:
				if takes < 0 || takes > 3 {
					why = api.ErrArg
				}
			case api.DPrefix:
				if takes != 1 && takes != 2 {
					why = api.ErrArg
				}
			default:
				if takes != 0 {
					why = api.ErrForm
				}
			}
			checkRight(t, d, why)
		}
	}
}

// P17.1: fields that the kind has not, even if they are right.
func TestOtherFields(t *testing.T) {
	full := api.Decl{Name: "a", Symbol: "b", Of: "c", Dim: api.Dim{0, 1}, Factor: rat.Of(2), Offset: rat.Of(0), Spread: rat.Of(0), Parts: []api.Part{{Name: "d", Exp: 1}}, Takes: 2}
	puts := map[string]func(*api.Decl){
		"Symbol": func(d *api.Decl) { d.Symbol = full.Symbol },
		"Of":     func(d *api.Decl) { d.Of = full.Of },
		"Dim":    func(d *api.Decl) { d.Dim = full.Dim },
		"Factor": func(d *api.Decl) { d.Factor = full.Factor },
		"Offset": func(d *api.Decl) { d.Offset = full.Offset },
		"Spread": func(d *api.Decl) { d.Spread = full.Spread },
		"Parts":  func(d *api.Decl) { d.Parts = full.Parts },
		"Takes":  func(d *api.Decl) { d.Takes = full.Takes },
	}
	for kind := api.DBase; kind <= api.DConst; kind++ {
		for field, put := range puts {
			d := sample(kind)
			put(&d)
			why := api.ErrForm
			if slices.Contains(fieldsOf(kind), field) {
				why = api.OK
			}
			checkRight(t, d, why)
		}
		d := sample(kind)
		d.Offset.Den = "1"
		if kind != api.DScale {
			checkRight(t, d, api.ErrForm)
		}
	}
}

// P17.1: several faults at once, against the chapter's order.
func TestRightness(t *testing.T) {
	r := rand.New(rand.NewSource(172))
	all := faults()
	for range 20000 {
		d := chance(r)
		if r.Intn(3) == 0 {
			d.Kind = r.Intn(8)
		}
		for range r.Intn(4) {
			all[r.Intn(len(all))].make(&d)
		}
		if want := rightness(d); decl.Right(d) != want {
			t.Errorf("Right(%s) = %d, not %d", short(d), decl.Right(d), want)
		}
	}
}
