package show_test

import (
	"math"
	"math/big"
	"math/rand"
	"slices"
	"strings"
	"sync"
	"testing"

	"cubit/api"
	"cubit/house"
	"cubit/prefix"
	"cubit/rat"
	"cubit/show"
)

func quant(x string, d api.Dim) api.Quant { return api.Quant{Value: number(x), Dim: d} }

// Dimensions of lengths, times, temperatures, information.
func long() api.Dim { return api.Dim{1} }
func late() api.Dim { return api.Dim{0, 0, 1} }
func warm() api.Dim { return api.Dim{0, 0, 0, 0, 1} }
func told() api.Dim { return api.Dim{7: 1} }

// P25.2.
func TestQuant(t *testing.T) {
	h := ownHouse(t)
	for _, c := range []struct {
		q    api.Quant
		unit string
		n    int
		want string
	}{
		{quant("5000", long()), "km", 3, "5.00 km"}, {quant("5863/20", warm()), "\u00b0C", 3, "20.0 \u00b0C"}, {quant("5863/20", warm()), "degF", 2, "68 degF"}, {quant("0", warm()), "degC", 5, "-273.15 degC"}, {quant("1/1000000", long()), "\u00b5m", 1, "1 \u00b5m"}, {quant("-1609.344", long()), "mi", 1, "-1 mi"}, {quant("0", long()), "meter", 9, "0 meter"}, {quant("5000", long()), "kilometer", 2, "5.0 kilometer"}, {quant("1", long()), "Qm", 2, "1.0e-30 Qm"}, {quant("1/3", api.Dim{}), "rad", 40, "0." + strings.Repeat("3", 40) + " rad"},
	} {
		if s, e := show.Quant(h, c.q, c.unit, c.n); s != c.want || e != api.OK {
			t.Errorf("Quant(%v, %q, %d) = %q, %d", c.q, c.unit, c.n, s, e)
		}
	}
	odd := oddHouse(t)
	for _, c := range []struct {
		q    api.Quant
		unit string
		want string
	}{
		{quant("1e599", warm()), "bk", "1.00e300 bk"}, // on the way a number of 601 digits
		{quant("1e599", warm()), "fr", "0 fr"},
		{quant("1e599", long()), "most", "1.00 most"},
		{quant("1e-599", long()), "least", "1.00 least"},
	} {
		if s, e := show.Quant(odd, c.q, c.unit, 3); s != c.want || e != api.OK {
			t.Errorf("Quant(%s, %q) = %q, %d", short(c.q), c.unit, s, e)
		}
	}
}

// P25.2: each error at its place in the order.
func TestQuantRefused(t *testing.T) {
	h, odd := ownHouse(t), oddHouse(t)
	bad := api.Quant{Dim: late()}
	for _, c := range []struct {
		h    *house.House
		q    api.Quant
		unit string
		n    int
		want api.Errno
	}{
		{nil, bad, "foo", 0, api.ErrNil}, {h, bad, "foo", 0, api.ErrArg}, {h, bad, "foo", 41, api.ErrArg}, {h, bad, "foo", math.MinInt, api.ErrArg}, {h, bad, "foo", math.MaxInt, api.ErrArg}, {h, bad, "foo", 1, api.ErrUnit}, {h, bad, "light", 1, api.ErrUnit}, {h, bad, "2m", 1, api.ErrRune}, {h, bad, "in", 1, api.ErrName}, {h, bad, "", 1, api.ErrRune}, {h, bad, strings.Repeat("m", 41), 1, api.ErrSize}, {h, bad, "km / h", 1, api.ErrRune}, {odd, bad, "dam", 1, api.ErrMixed}, {odd, bad, "hbig", 1, api.ErrLarge}, {h, bad, "m", 40, api.ErrForm}, {h, quant("1", late()), "m", 40, api.ErrDim}, {h, quant("1", api.Dim{100}), "m", 40, api.ErrDim}, {h, quant("1", api.Dim{1, 7: math.MinInt}), "m", 40, api.ErrDim}, {odd, quant("1e599", long()), "small", 1, api.ErrLarge}, {odd, quant("1e-599", long()), "big", 1, api.ErrLarge}, {odd, quant("-7e599", warm()), "fr", 1, api.ErrLarge},
	} {
		if s, e := show.Quant(c.h, c.q, c.unit, c.n); s != "" || e != c.want {
			t.Errorf("Quant(%s, %q, %d) = %q, %d, not %d", short(c.q), c.unit, c.n, s, e, c.want)
		}
		if s, e := show.Best(c.h, c.q, c.unit, c.n); s != "" || e != c.want {
			t.Errorf("Best(%s, %q, %d) = %q, %d, not %d", short(c.q), c.unit, c.n, s, e, c.want)
		}
	}
	for _, x := range wrongs() {
		if s, e := show.Quant(h, api.Quant{Value: x, Dim: late()}, "m", 1); s != "" || e != api.ErrForm {
			t.Errorf("Quant(%s) = %q, %d", short(x), s, e)
		}
		if s, e := show.Best(h, api.Quant{Value: x, Dim: late()}, "m", 1); s != "" || e != api.ErrForm {
			t.Errorf("Best(%s) = %q, %d", short(x), s, e)
		}
	}
}

// nearlyOne: nearly 1, with as many digits as there may be.
func nearlyOne(d api.Dim) api.Quant {
	nines := strings.Repeat("9", 599)
	return api.Quant{Value: api.Rat{Num: nines + "8", Den: nines + "9"}, Dim: d}
}

// P25.3.
func TestBest(t *testing.T) {
	h, odd := ownHouse(t), oddHouse(t)
	for _, c := range []struct {
		h    *house.House
		q    api.Quant
		unit string
		n    int
		want string
	}{
		{h, quant("5000", long()), "m", 3, "5.00 km"}, {h, quant("12345", long()), "m", 3, "12.3 km"}, {h, quant("12345", long()), "metre", 3, "12.3 km"}, {h, quant("0", long()), "metre", 3, "0 m"}, {h, quant("-1/2", long()), "m", 3, "-500 mm"}, {h, quant("1", long()), "m", 1, "1 m"}, {h, quant("999.9", long()), "m", 3, "1000 m"}, {h, quant("1000", long()), "m", 1, "1 km"}, {h, quant("1e-6", long()), "m", 1, "1 \u03bcm"}, {h, quant("1e40", long()), "m", 1, "1e10 Qm"}, {h, quant("1e-40", long()), "m", 1, "1e-10 qm"}, {h, quant("1609344", long()), "mile", 4, "1000 mi"}, {h, quant("5863/20", warm()), "celsius", 3, "20.0 \u00b0C"}, {h, quant("3000", warm()), "K", 2, "3.0 kK"}, {h, quant("5", api.Dim{0, 1}), "g", 2, "5.0 kg"},
		{odd, quant("2048", told()), "b", 3, "2.05 kb"}, {odd, quant("32768", told()), "wd", 3, "2.00 Kiwd"}, {odd, quant("1/2", told()), "word", 3, "0.0312 wd"}, {odd, quant("16368", told()), "wd", 4, "1023 wd"}, {odd, quant("16384", told()), "wd", 4, "1.000 Kiwd"}, {odd, quant("2e9", told()), "crumb", 1, "1 Gcr"}, {odd, quant("1e7", late()), "s", 1, "1e7 s"}, {odd, quant("1e40", told()), "wd", 2, "5.2e14 Yiwd"},
		{odd, quant("5000", long()), "m", 1, "5 km"}, {odd, quant("1e6", long()), "m", 1, "1 Mm"}, {odd, quant("1e599", warm()), "back", 3, "1.00e300 bk"}, {odd, quant("1e-599", long()), "third", 2, "3.0e-599 third"}, {odd, quant("7e4", api.Dim{}), "one", 2, "70 kone"},
	} {
		if s, e := show.Best(c.h, c.q, c.unit, c.n); s != c.want || e != api.OK {
			t.Errorf("Best(%s, %q, %d) = %q, %d, not %q", short(c.q), c.unit, c.n, s, e, c.want)
		}
	}
	for _, c := range []struct {
		h    *house.House
		q    api.Quant
		unit string
		want api.Errno
	}{
		{h, quant("5000", long()), "meter", api.ErrUnit}, {h, quant("5000", long()), "km", api.ErrUnit}, {h, quant("5000", long()), "kilometre", api.ErrUnit}, {h, api.Quant{}, "km", api.ErrUnit}, {h, api.Quant{}, "degC", api.ErrUnit}, {h, quant("1", warm()), "\u2103", api.ErrUnit}, {h, quant("1", api.Dim{2, 1, -3, -2}), "\u2126", api.ErrUnit}, // not as it stands in the house
		{odd, quant("5000", long()), "dam", api.ErrMixed}, {odd, quant("5000", long()), "hbig", api.ErrLarge}, {odd, quant("5000", warm()), "centigrade", api.ErrUnit},
		{odd, quant("1e-598", long()), "big", api.ErrLarge}, {odd, quant("1e-599", long()), "m", api.OK}, {odd, quant("1e599", long()), "m", api.OK},
		{odd, nearlyOne(long()), "m", api.ErrLarge}, {odd, nearlyOne(told()), "b", api.ErrLarge}, {odd, nearlyOne(late()), "s", api.OK}, {odd, nearlyOne(long()), "third", api.OK}, {odd, nearlyOne(told()), "wd", api.ErrLarge}, // by a prefix's factor it has too many digits, or by the unit's
	} {
		want, why := bestTold(c.h, c.q, c.unit, 3)
		if why != c.want {
			t.Errorf("the model of Best(%s, %q): %d, not %d", short(c.q), c.unit, why, c.want)
		}
		if s, e := show.Best(c.h, c.q, c.unit, 3); s != want || e != why {
			t.Errorf("Best(%s, %q) = %q, %d, not %q, %d", short(c.q), c.unit, s, e, want, why)
		}
	}
}

// words: of units, mostly; dims: those that they have.
func words(h *house.House) []string {
	l := []string{"km", "mm", "kilometre", "meter", "foo", "", "2m", "hbig", "dam", "degC", "\u00b5m", "in", "light", "Kib", "kKm"}
	for _, u := range h.Units() {
		l = append(l, u.Name, u.Symbol)
	}
	return l
}

// P25.2, P25.3, P25.8: quantities of chance against the models; Best is Quant, times the factors.
func TestUnitsAgainstTheModel(t *testing.T) {
	r := rand.New(rand.NewSource(254))
	for _, h := range houses(t) {
		all, seen := words(h), map[api.Errno]int{}
		for range 12000 {
			word, n := pick(r, all...), 1+r.Intn(pick(r, 4, 40))
			u, _ := h.Unit(word)
			q := api.Quant{Value: sample(r), Dim: u.Dim}
			switch r.Intn(30) {
			case 0:
				q.Dim = pick(r, long(), late(), warm(), api.Dim{99})
			case 1:
				q.Value = pick(r, wrongs()...)
			case 2:
				n = pick(r, 0, 41, -5)
			}
			want, why := quantTold(h, q, word, n)
			if s, e := show.Quant(h, q, word, n); s != want || e != why {
				t.Errorf("Quant(%s, %q, %d) = %q, %d, not %q, %d", short(q), word, n, s, e, want, why)
			}
			want, why = bestTold(h, q, word, n)
			if s, e := show.Best(h, q, word, n); s != want || e != why {
				t.Errorf("Best(%s, %q, %d) = %q, %d, not %q, %d", short(q), word, n, s, e, want, why)
			}
			seen[why]++
			if why == api.OK {
				checkBest(t, h, q, u, n)
			}
		}
		for _, e := range []api.Errno{api.OK, api.ErrArg, api.ErrForm, api.ErrDim, api.ErrUnit, api.ErrLarge, api.ErrRune} {
			if seen[e] < 10 {
				t.Error("so few of", e, seen)
			}
		}
	}
}

// checkBest: P25.8: both tell one number, once what prefixes make of it is taken out again.
func checkBest(t *testing.T, h *house.House, q api.Quant, u api.Unit, n int) {
	t.Helper()
	one, e := show.Best(h, q, u.Symbol, n)
	number, text, _ := strings.Cut(one, " ")
	sign, ok := strings.CutSuffix(text, u.Symbol)
	p, known := prefix.Find(sign)
	if e != api.OK || !ok || sign != "" && !known {
		t.Errorf("Best(%s, %q) = %q, %d", short(q), u.Symbol, one, e)
		return
	}
	read, e, _ := rat.Parse(number)
	if e != api.OK {
		return // too many digits for rat
	}
	told := bigOf(read)
	if sign != "" {
		told.Mul(told, bigOf(p.Factor))
	}
	exact, _ := inUnit(q, u)
	far := new(big.Rat).Sub(told, bigOf(exact))
	bound := new(big.Rat).Mul(bigOf(exact), ten(1-n))
	if far.Abs(far).Cmp(bound.Abs(bound)) > 0 {
		t.Errorf("Best(%s, %q) = %q is too far away", short(q), u.Symbol, one)
	}
	if sign == "" {
		if other, _ := show.Quant(h, q, u.Symbol, n); other != one {
			t.Errorf("Quant(%s, %q) = %q, and Best = %q", short(q), u.Symbol, other, one)
		}
	}
}

// P25.4.
func TestMixed(t *testing.T) {
	h, odd := ownHouse(t), oddHouse(t)
	for _, c := range []struct {
		h     *house.House
		q     api.Quant
		units string
		n     int
		want  string
	}{
		{h, quant("1609.4329", long()), "mi ft inch", 3, "1 mi 3.50 inch"}, {h, quant("-1609.4329", long()), "mi ft inch", 3, "-1 mi 3.50 inch"}, {h, quant("0", long()), "mi ft inch", 3, "0 inch"}, {h, quant("1609.344", long()), "mi ft inch", 3, "1 mi"}, {h, quant("0.0254", long()), "mi ft inch", 3, "1.00 inch"}, {h, quant("-0.3048", long()), "mi ft inch", 3, "-1 ft"}, {h, quant("0.3302", long()), "mi ft inch", 1, "1 ft 1 inch"}, {h, quant("3725", late()), "h min s", 2, "1 h 2 min 5.0 s"}, {h, quant("3725", late()), "h min s", 1, "1 h 2 min 5 s"}, {h, quant("3725", late()), "s", 4, "3725 s"}, {h, quant("3725", late()), "s", 3, "3720 s"}, {h, quant("86399.999", late()), "d h min s", 2, "23 h 59 min 60 s"}, {h, quant("1e30", late()), "d min ms", 2, "11574074074074074074074074 d 106 min 40000 ms"}, {h, quant("1/3", late()), "hr min sec", 3, "0.333 sec"}, {h, quant("12345.678", long()), "km m dm cm mm", 5, "12 km 345 m 6 dm 7 cm 8.0000 mm"}, {h, quant("1", long()), "km hm dam m dm cm mm \u00b5m", 5, "1 m"}, {h, quant("5", warm()), "K", 5, "5.0000 K"},
		{odd, quant("1e599", long()), "most m", 2, "1 most"}, {odd, quant("1/2", long()), "m third sixth", 1, "1 third 1 sixth"}, {odd, quant("1e-599", long()), "most least", 1, "1 least"}, {odd, quant("-7/12", long()), "third sixth", 3, "-1 third 1.50 sixth"},
	} {
		if s, e := show.Mixed(c.h, c.q, strings.Fields(c.units), c.n); s != c.want || e != api.OK {
			t.Errorf("Mixed(%s, %s, %d) = %q, %d, not %q", short(c.q), c.units, c.n, s, e, c.want)
		}
	}
	// The least goes 1 and 1198 noughts often into the number, but not into what is left.
	if s, e := show.Mixed(odd, quant("1e599", long()), []string{"most", "least"}, 2); s != "1 most" || e != api.OK {
		t.Error(s, e)
	}
}

// P25.4: each error at its place in the order: all of a unit's, and the quantity's, ahead of those of the units behind it.
func TestMixedRefused(t *testing.T) {
	h, odd := ownHouse(t), oddHouse(t)
	bad := api.Quant{Dim: late()}
	for _, c := range []struct {
		h     *house.House
		q     api.Quant
		units string
		n     int
		want  api.Errno
	}{
		{nil, bad, "", 0, api.ErrNil}, {nil, bad, "foo", 3, api.ErrNil}, {h, bad, "foo", 0, api.ErrArg}, {h, bad, "foo", 41, api.ErrArg}, {h, bad, "foo", math.MinInt, api.ErrArg}, {h, bad, "", 3, api.ErrArg}, {h, bad, "d h min s ms \u00b5s ns ps fs", 3, api.ErrArg}, {h, bad, "foo s", 3, api.ErrUnit}, {h, bad, "s foo", 3, api.ErrForm}, {h, bad, "2m s", 3, api.ErrRune}, {h, bad, "in", 3, api.ErrName}, {odd, bad, "dam", 3, api.ErrMixed}, {h, bad, "m s", 3, api.ErrForm}, {h, bad, "degC", 3, api.ErrForm},
		{h, quant("1", late()), "m", 3, api.ErrDim}, {h, quant("1", late()), "m foo", 3, api.ErrDim}, {h, quant("1", late()), "s foo", 3, api.ErrUnit}, {h, quant("1", late()), "s m", 3, api.ErrDim}, {h, quant("1", late()), "s degC", 3, api.ErrDim}, {h, quant("1", late()), "ms km", 3, api.ErrDim}, {h, quant("1", warm()), "degC", 3, api.ErrAffine}, {h, quant("1", warm()), "degC foo", 3, api.ErrAffine}, {h, quant("1", warm()), "degC s", 3, api.ErrAffine}, {h, quant("1", warm()), "mK K s", 3, api.ErrArg}, {h, quant("1", warm()), "mK K degC", 3, api.ErrArg}, {h, quant("1", warm()), "K degC", 3, api.ErrAffine}, {h, quant("1", warm()), "mK K", 3, api.ErrArg}, {h, quant("1", warm()), "mK K foo", 3, api.ErrArg}, {h, quant("1", warm()), "mK degC", 3, api.ErrAffine}, {h, quant("1", late()), "s s", 3, api.ErrArg}, {h, quant("1", late()), "s sec", 3, api.ErrArg}, {h, quant("1", late()), "h s min", 3, api.ErrArg}, {h, quant("1", late()), "min h", 3, api.ErrArg},
		{odd, quant("1e599", long()), "small", 3, api.ErrLarge}, {odd, quant("1e599", long()), "small least", 3, api.ErrLarge}, {odd, quant("1e-599", long()), "m big", 3, api.ErrArg}, {odd, quant("1e-599", long()), "big", 3, api.ErrLarge}, {odd, quant("1e-599", long()), "most big", 3, api.ErrLarge},
	} {
		if s, e := show.Mixed(c.h, c.q, strings.Fields(c.units), c.n); s != "" || e != c.want {
			t.Errorf("Mixed(%s, %s, %d) = %q, %d, not %d", short(c.q), c.units, c.n, s, e, c.want)
		}
	}
	for _, x := range wrongs() {
		if s, e := show.Mixed(h, api.Quant{Value: x, Dim: late()}, []string{"h", "m"}, 1); s != "" || e != api.ErrForm {
			t.Errorf("Mixed(%s) = %q, %d", short(x), s, e)
		}
	}
}

// P25.4: of any two faults the one that is told is that of the unit which stands ahead; a Value that is not right is told at the first unit that is one.
func TestMixedInOrder(t *testing.T) {
	h := ownHouse(t)
	faults := []struct {
		word string
		want api.Errno
		read bool
	}{{"", api.ErrRune, false}, {"2m", api.ErrRune, false}, {"in", api.ErrName, false}, {"foo", api.ErrUnit, false}, {"s", api.ErrDim, true}, {"degC", api.ErrAffine, true}, {"K", api.ErrArg, true}, {"kK", api.ErrArg, true}}
	for _, one := range faults {
		first := one.want
		if one.read {
			first = api.ErrForm
		}
		for _, two := range faults {
			for _, c := range []struct {
				q     api.Quant
				units []string
				want  api.Errno
			}{
				{quant("1", warm()), []string{"K", one.word, two.word}, one.want},
				{quant("1", warm()), []string{"K", "mK", one.word, two.word}, one.want},
				{api.Quant{Dim: warm()}, []string{one.word, two.word}, first},
				{api.Quant{Dim: warm()}, []string{"K", one.word, two.word}, api.ErrForm},
			} {
				if s, e := show.Mixed(h, c.q, c.units, 3); s != "" || e != c.want {
					t.Errorf("Mixed(%s, %q, 3) = %q, %d, not %d", short(c.q), c.units, s, e, c.want)
				}
			}
		}
	}
}

// lots: lists of units, mostly of one dimension, mostly falling.
func lots(r *rand.Rand, h *house.House) (string, []string) {
	one := pick(r, words(h)...)
	u, _ := h.Unit(one)
	var alike []api.Unit
	for _, other := range h.Units() {
		if other.Dim == u.Dim {
			alike = append(alike, other)
		}
	}
	slices.SortFunc(alike, func(a, b api.Unit) int { return bigOf(b.Factor).Cmp(bigOf(a.Factor)) })
	var l []string
	for _, a := range alike {
		if r.Intn(3) > 0 && (a.Offset.Num == "0" || r.Intn(8) == 0) {
			l = append(l, pick(r, a.Name, a.Symbol))
		}
	}
	l = l[:min(len(l), 1+r.Intn(8))]
	for range pick(r, 0, 0, 0, 0, 0, 0, 0, 0, 1, 2) {
		l = slices.Insert(l, r.Intn(len(l)+1), pick(r, words(h)...))
	}
	return one, l
}

// P25.4, P25.7: against the model; and what is told, added up, is the number, as far as the last one's digits go.
func TestMixedAgainstTheModel(t *testing.T) {
	r := rand.New(rand.NewSource(255))
	for _, h := range houses(t) {
		seen := map[api.Errno]int{}
		for range 10000 {
			one, l := lots(r, h)
			u, _ := h.Unit(one)
			q, n := api.Quant{Value: sample(r), Dim: u.Dim}, 1+r.Intn(pick(r, 4, 40))
			if r.Intn(40) == 0 {
				q.Value = pick(r, wrongs()...)
			}
			want, why := mixedTold(h, q, l, n)
			s, e := show.Mixed(h, q, l, n)
			if s != want || e != why {
				t.Errorf("Mixed(%s, %q, %d) = %q, %d, not %q, %d", short(q), l, n, s, e, want, why)
			}
			seen[why]++
			if e == api.OK {
				checkMixed(t, h, q, l, n, s)
			}
		}
		for _, e := range []api.Errno{api.OK, api.ErrArg, api.ErrForm, api.ErrUnit, api.ErrLarge, api.ErrAffine, api.ErrDim} {
			if seen[e] < 10 {
				t.Error("so few of", e, seen)
			}
		}
	}
}

func checkMixed(t *testing.T, h *house.House, q api.Quant, l []string, n int, s string) {
	t.Helper()
	parts := strings.Fields(strings.TrimPrefix(s, "-"))
	sum, last := new(big.Rat), new(big.Rat)
	for i := 0; i < len(parts); i += 2 {
		x, e, _ := rat.Parse(parts[i])
		if e != api.OK {
			return // too many digits for rat
		}
		u, _ := h.Unit(parts[i+1])
		part := new(big.Rat).Mul(bigOf(x), bigOf(u.Factor))
		sum.Add(sum, part)
		last.SetInt64(0)
		if parts[i+1] == l[len(l)-1] {
			last.Mul(new(big.Rat).Mul(ten(lastPlace(parts[i], n)), big.NewRat(1, 2)), bigOf(u.Factor))
		}
	}
	if strings.HasPrefix(s, "-") {
		sum.Neg(sum)
	}
	if far := sum.Sub(sum, bigOf(q.Value)); far.Abs(far).Cmp(last) > 0 {
		t.Errorf("Mixed(%s, %q, %d) = %q, which is too far away", short(q), l, n, s)
	}
}

// What is handed in stays, also behind a list's length; many may ask at one time.
func TestManyAtOneTime(t *testing.T) {
	h := ownHouse(t)
	units := append(make([]string, 0, 5), "mi", "ft", "inch")
	units[:5][3] = "foo"
	rows := [][]string{{"a", "bb"}, {"ccc", "d"}}
	var wait sync.WaitGroup
	for range 8 {
		wait.Go(func() {
			for range 50 {
				one, _ := show.Mixed(h, quant("1609.4329", long()), units, 3)
				two, _ := show.Best(h, quant("12345", long()), "m", 3)
				three, _ := show.Table(rows)
				if one != "1 mi 3.50 inch" || two != "12.3 km" || three != "a    bb\nccc  d\n" {
					t.Error(one, two, three)
				}
			}
		})
	}
	wait.Wait()
	if !slices.Equal(units[:5], []string{"mi", "ft", "inch", "foo", ""}) || !slices.Equal(rows[0], []string{"a", "bb"}) {
		t.Error(units[:5], rows)
	}
}
