package ledger_test

import (
	"math"
	"math/rand"
	"slices"
	"strconv"
	"strings"
	"testing"
	"time"

	"cubit/api"
	"cubit/conv"
	"cubit/house"
	"cubit/ledger"
	"cubit/rat"
)

// filled: a ledger with these entries.
func filled(t *testing.T, h *house.House, entries ...api.Entry) *ledger.Ledger {
	t.Helper()
	l := ledger.New(h)
	for _, e := range entries {
		if _, why := l.Add(e); why != api.OK {
			t.Fatal(short(e), why)
		}
	}
	return l
}

// P26.4: What, Tag, days, and the unit's dimension.
func TestAsk(t *testing.T) {
	l := filled(t, ownHouse(t),
		entry("length", "5", "1/10", "km", 0, "dry"), entry("length", "3", "0", "mi", 3, "wet", "dry"), entry("time", "90", "1", "min", 3), entry("length", "2", "0", "h", 4, "wet"), entry("heat", "68", "9/10", "degF", 1000000))
	for _, c := range []struct {
		q    api.Query
		want string
	}{
		{all(""), "1 2 3 4 5"}, {api.Query{}, "1"}, {api.Query{What: "length", To: 9}, "1 2 4"}, {api.Query{What: "lengt", To: 9}, ""}, {api.Query{Tag: "dry", To: 9}, "1 2"}, {api.Query{Tag: "dr", To: 9}, ""}, {api.Query{What: "length", Tag: "wet", To: 9}, "2 4"}, {api.Query{From: 3, To: 3}, "2 3"}, {api.Query{From: 4, To: 3}, ""}, {api.Query{From: math.MinInt, To: math.MaxInt}, "1 2 3 4 5"}, {api.Query{From: math.MaxInt, To: math.MinInt}, ""}, {api.Query{From: 1, To: 999999}, "2 3 4"}, {all("m"), "1 2"}, {all("s"), "3 4"}, {all("K"), "5"}, {all("kg"), ""}, {api.Query{What: "length", Unit: "s", To: 9}, "4"}, {api.Query{What: "\xff", To: 9}, ""},
	} {
		found, e := l.Ask(c.q)
		var got []string
		for _, id := range ids(found) {
			got = append(got, strconv.Itoa(id))
		}
		if strings.Join(got, " ") != c.want || e != api.OK {
			t.Errorf("Ask(%+v) = %v, %d, not %s", c.q, got, e, c.want)
		}
	}
	found, _ := l.Ask(all("degC"))
	want := entry("heat", "20", "1/2", "degC", 1000000)
	want.Id = 5
	if len(found) != 1 || !sameEntry(found[0], want) {
		t.Error(found)
	}
	found, _ = l.Ask(all(" ( s ) "))
	if len(found) != 2 || found[0].Unit != " ( s ) " || found[0].Value != rat.Of(5400) || found[0].Spread != rat.Of(60) || found[1].Value != rat.Of(7200) {
		t.Error(found)
	}
	for unit, want := range map[string]api.Errno{"foo": api.ErrUnit, " ": api.ErrSyntax, "m + m": api.ErrForm, "2 degC": api.ErrAffine, "m^100": api.ErrExp, "light": api.ErrUnit} {
		if found, e := l.Ask(api.Query{What: "none", Unit: unit}); len(found) > 0 || e != want {
			t.Errorf("Ask in %q: %v, %d", unit, found, e)
		}
		if sum, e := l.Sum(api.Query{What: "none", Unit: unit}); !sameMeas(sum, api.Meas{}) || e != want {
			t.Errorf("Sum in %q: %v, %d", unit, sum, e)
		}
	}
}

// P26.4: ErrLarge, of a value or a spread, of those alone that are asked for; what is reckoned on the way does not count.
func TestAskLarge(t *testing.T) {
	h := oddHouse(t)
	l := filled(t, h, entry("value", "4e599", "1", "m", 0), entry("spread", "1", "4e599", "m", 0), entry("small", "1", "1e-599", "m", 0), entry("fine", "1e300", "1e299", "b", 0), entry("void", "1e599", "1", "km", 0), entry("most", "1e599", "1e599", "most", 0))
	l.Void(5)
	for _, c := range []struct {
		what, unit, value, spread string
		want                      api.Errno
	}{
		{"value", "m", "4e599", "1", api.OK}, {"value", "third", "", "", api.ErrLarge}, {"value", "km", "4e596", "1/1000", api.OK}, {"spread", "third", "", "", api.ErrLarge}, {"spread", "km", "1/1000", "4e596", api.OK}, {"small", "km", "", "", api.ErrLarge}, {"fine", "b", "1e300", "1e299", api.OK}, {"fine", "K", "1e599", "1e599", api.OK}, {"fine", "1e300 K", "1e299", "1e299", api.OK}, {"void", "m", "", "", api.OK}, {"most", "most", "1e599", "1e599", api.OK}, {"most", "big", "", "", api.ErrLarge}, {"", "third", "", "", api.ErrLarge}, {"", "s", "", "", api.OK}, // fine in K is 1e600 less 9e599
	} {
		found, e := l.Ask(api.Query{What: c.what, Unit: c.unit})
		if e != c.want || c.value == "" && len(found) > 0 {
			t.Errorf("%s in %s: %s, %d", c.what, c.unit, short(found), e)
		}
		if c.value != "" && (len(found) != 1 || found[0].Value != number(c.value) || found[0].Spread != number(c.spread)) {
			t.Errorf("%s in %s: %s", c.what, c.unit, short(found))
		}
		if c.want == api.ErrLarge {
			if sum, e := l.Sum(api.Query{What: c.what, Unit: c.unit}); !sameMeas(sum, api.Meas{}) || e != c.want {
				t.Errorf("%s in %s: %s, %d", c.what, c.unit, short(sum), e)
			}
		}
	}
}

// P26.5.
func TestSum(t *testing.T) {
	h := ownHouse(t)
	l := filled(t, h, entry("length", "5.0", "0.1", "km", 3), entry("length", "3", "0", "mi", 4))
	for _, c := range []struct {
		q     api.Query
		value string
		by    []string
	}{
		{all("km"), "9.828032", []string{"#1", "1/10"}}, {all("m"), "9828.032", []string{"#1", "100"}}, {all("s"), "0", nil}, {api.Query{Unit: "km", From: 9, To: 3}, "0", nil}, {api.Query{Unit: "mi", To: 9, From: 4}, "3", nil},
	} {
		want := api.Meas{Value: number(c.value)}
		if c.by != nil {
			want.Sources = []api.Source{{Name: c.by[0], By: number(c.by[1])}}
		}
		if sum, e := l.Sum(c.q); !sameMeas(sum, want) || e != api.OK {
			t.Errorf("Sum(%+v) = %v, %d", c.q, sum, e)
		}
	}
	// The page's sixth example.
	l.Correct(1, entry("length", "5.2", "0.1", "km", 5))
	if sum, e := l.Sum(api.Query{What: "length", To: 9, Unit: "km"}); !sameMeas(sum, api.Meas{Value: number("10.028032"), Sources: []api.Source{{Name: "#3", By: number("0.1")}}}) || e != api.OK {
		t.Error(sum, e)
	}
	old, _ := l.Back(2)
	if sum, e := old.Sum(all("km")); !sameMeas(sum, api.Meas{Value: number("9.828032"), Sources: []api.Source{{Name: "#1", By: number("0.1")}}}) || e != api.OK {
		t.Error(sum, e)
	}
	if sum, e := l.Sum(api.Query{What: "length"}); !sameMeas(sum, api.Meas{}) || e != api.ErrUnit {
		t.Error(sum, e)
	}
}

// P26.5: sources by their names, as many as there may be; those of spread 0 are none; ErrLarge goes ahead of ErrSource.
func TestSumSources(t *testing.T) {
	h := ownHouse(t)
	l := ledger.New(h)
	for range 64 {
		l.Add(entry("a", "1", "1/7", "m", 0))
		l.Add(entry("a", "1", "0", "m", 0))
	}
	sum, e := l.Sum(all("m"))
	if sum.Value != rat.Of(128) || len(sum.Sources) != 64 || sum.Sources[1].Name != "#101" || !slices.IsSortedFunc(sum.Sources, func(a, b api.Source) int { return strings.Compare(a.Name, b.Name) }) || e != api.OK {
		t.Error(sum, e)
	}
	l.Add(entry("a", "1e599", "1/7", "m", 1))
	if sum, e := l.Sum(all("m")); !sameMeas(sum, api.Meas{}) || e != api.ErrSource {
		t.Error(sum, e)
	}
	l.Add(entry("a", "9e599", "0", "m", 2))
	if sum, e := l.Sum(all("m")); !sameMeas(sum, api.Meas{}) || e != api.ErrLarge {
		t.Error(sum, e)
	}
	// On the way it has 601 digits.
	l.Add(entry("a", "-9e599", "0", "m", 3))
	if sum, e := l.Sum(all("m")); !sameMeas(sum, api.Meas{}) || e != api.ErrSource {
		t.Error(sum, e)
	}
	if sum, e := l.Sum(api.Query{From: 1, To: 3, Unit: "m"}); sum.Value != number("1e599") || len(sum.Sources) != 1 || e != api.OK {
		t.Error(short(sum), e)
	}
	if sum, e := l.Sum(api.Query{From: 1, To: 2, Unit: "m"}); !sameMeas(sum, api.Meas{}) || e != api.ErrLarge {
		t.Error(short(sum), e)
	}
	l.Void(1)
	if sum, e := l.Sum(all("m")); len(sum.Sources) != 64 || e != api.OK {
		t.Error(short(sum), e)
	}
}

// P26.11, P4: a sum in another unit is the sum converted, where no scale is in it.
func TestSumConverted(t *testing.T) {
	r := rand.New(rand.NewSource(264))
	for i, h := range houses(t) {
		odd, found := i == 1, 0
		isScale := func(text string) bool {
			u, e, _ := conv.Unit(h, text)
			return e == api.OK && u.Offset != rat.Of(0)
		}
		for range 200 {
			l, m := ledger.New(h), newModel(h)
			for range 30 {
				if e := grown(r, odd); !isScale(e.Unit) {
					l.Add(e)
					m.add(e)
				}
			}
			for range 20 {
				q := query(r, odd)
				to := unitText(r, odd)
				from := q.Unit
				if from == "" || isScale(from) || isScale(to) {
					continue
				}
				sum, e := l.Sum(q)
				q.Unit = to
				other, why := l.Sum(q)
				if e != api.OK || why != api.OK {
					continue
				}
				converted, no := conv.Unc(h, sum, from, to)
				if no == api.ErrDim || no == api.ErrLarge {
					continue
				}
				if len(sum.Sources) > 0 {
					found++
				}
				if !sameMeas(other, converted) || no != api.OK {
					t.Errorf("in %q %s, in %q %s, not %s, %d", from, short(sum), to, short(other), short(converted), no)
				}
			}
		}
		if found < 100 {
			t.Error("so few:", found)
		}
	}
}

// A full ledger, and long numbers, end soon.
func TestGreatLedgers(t *testing.T) {
	begun := time.Now()
	h, r := ownHouse(t), rand.New(rand.NewSource(265))
	l := ledger.New(h)
	for i := range api.MaxEntries {
		e := entry("a", strconv.Itoa(i)+".25", "0.5", pick(r, "mi", "km", "ft"), i, "a", "b", "c")
		if i%2 == 0 {
			l.Add(e)
		} else {
			l.Correct(i, e)
		}
	}
	if _, e := l.Sum(all("m")); e != api.ErrSource {
		t.Error(e)
	}
	if chain, e := l.Chain(4096); len(chain) != 2 || e != api.OK {
		t.Error(len(chain), e)
	}
	for id := 2; id <= 4096; id += 2 {
		l.Void(id)
	}
	if l.Changes() != 6144 || len(l.Now()) != 0 {
		t.Error(l.Changes())
	}
	for _, n := range []int{0, 1, 3000, 4096, 5000, 6144} {
		if old, e := l.Back(n); e != api.OK || old.Changes() != n {
			t.Error(n, e)
		}
	}
	l = ledger.New(h)
	l.Add(entry("a", "1", "0", "m", 0))
	for i := range 4095 {
		if n, e := l.Correct(i+1, entry("a", "1", "0", "km", 0)); n != i+2 || e != api.OK {
			t.Fatal(n, e)
		}
	}
	if chain, e := l.Chain(4096); len(chain) != 4096 || e != api.OK {
		t.Error(len(chain), e)
	}
	l = ledger.New(h)
	for range 100 {
		v, _ := rat.New(digits(r, 600), digits(r, 600))
		l.Add(api.Entry{What: "a", Value: v, Spread: v, Unit: "m"})
	}
	if _, e := l.Sum(all("m")); e != api.ErrLarge {
		t.Error(e)
	}
	if used := time.Since(begun); used > 20*time.Second {
		t.Error(used)
	}
}
