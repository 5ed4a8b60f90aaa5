package spread_test

import (
	"math/big"
	"math/rand"
	"slices"
	"sort"
	"strings"
	"testing"

	"cubit/api"
	"cubit/rat"
	"cubit/spread"
)

// shares: what Budget should say of a value that is right.
func shares(m api.Meas) ([]api.Source, api.Errno) {
	variance := new(big.Rat)
	for _, s := range m.Sources {
		variance.Add(variance, mul(bigOf(s.By), bigOf(s.By)))
	}
	all := slices.Clone(m.Sources)
	sort.SliceStable(all, func(i, j int) bool {
		a, b := bigOf(all[i].By), bigOf(all[j].By)
		return a.Abs(a).Cmp(b.Abs(b)) > 0
	})
	for i, s := range all {
		by, e := told(quo(mul(bigOf(s.By), bigOf(s.By)), variance))
		if e != api.OK {
			return nil, e
		}
		all[i].By = by
	}
	return all, api.OK
}

// P23.2: examples, and edges.
func TestBudget(t *testing.T) {
	nines := strings.Repeat("9", 600)
	for _, c := range []struct {
		m, want api.Meas
		why     api.Errno
	}{
		{meas("0", "a", "3", "b", "4"), meas("0", "b", "16/25", "a", "9/25"), api.OK}, {meas("7"), meas("0"), api.OK}, {meas("0"), meas("0"), api.OK}, {meas("1", "x", "-1/7"), meas("0", "x", "1"), api.OK},
		{meas("1", "a", "1", "b", "-1", "c", "1"), meas("0", "a", "1/3", "b", "1/3", "c", "1/3"), api.OK}, {meas("1", "A", "-1", "a", "1", "ab", "-2", "b", "1"), meas("0", "ab", "4/7", "A", "1/7", "a", "1/7", "b", "1/7"), api.OK}, {meas("1", "#10", "1", "#2", "-1", "@3", "1/2"), meas("0", "#10", "4/9", "#2", "4/9", "@3", "1/9"), api.OK}, {meas("1", "a", "1/3", "b", "-1/2", "c", "2/5"), meas("0", "b", "225/469", "c", "144/469", "a", "100/469"), api.OK},
		{meas("1", "a", nines, "b", nines), meas("0", "a", "1/2", "b", "1/2"), api.OK}, {meas("1", "a", "1/"+nines, "b", "-2/"+nines), meas("0", "b", "4/5", "a", "1/5"), api.OK}, {meas("1", "a", "1e299", "b", "1"), meas("0"), api.OK}, {meas("1", "a", "1e300", "b", "1"), api.Meas{}, api.ErrLarge}, {meas("1", "a", "1", "b", nines), api.Meas{}, api.ErrLarge},
	} {
		want, why := shares(c.m)
		if c.want.Sources != nil && !slices.Equal(want, c.want.Sources) || why != c.why {
			t.Fatal("the model: ", short(want), why)
		}
		if got, e := spread.Budget(c.m); !slices.Equal(got, want) || e != c.why {
			t.Errorf("Budget(%s) = %s, %d", short(c.m), short(got), e)
		}
	}
	wrongs := []api.Meas{{}, {Value: api.Rat{Num: "2", Den: "4"}}, meas("1", "", "1"), meas("1", "a b", "1"), meas("1", "a", "0"), meas("1", "b", "1", "a", "1"), meas("1", "a", "1", "a", "1"), many("s", 65), meas("1", strings.Repeat("x", 41), "1"), {Value: rat.Of(1), Sources: []api.Source{{Name: "a", By: api.Rat{Num: "2", Den: "4"}}}}, {Value: rat.Of(1), Sources: []api.Source{{Name: "a", By: rat.Of(1)}, {Name: "b"}}}}
	for _, m := range wrongs {
		if l, e := spread.Budget(m); len(l) > 0 || e != api.ErrForm {
			t.Errorf("Budget(%s) = %s, %d", short(m), short(l), e)
		}
	}
	if l, e := spread.Budget(many("s", 64)); len(l) != 64 || l[0] != (api.Source{Name: "s1000", By: number("1/64")}) || l[63].Name != "s1063" || e != api.OK {
		t.Error(short(l), e)
	}
	room := meas("1", "a", "1", "b", "0")
	room.Sources = room.Sources[:1]
	if _, e := spread.Budget(room); e != api.OK {
		t.Error("what lies behind the list is read")
	}
}

// P23.2, P23.6: against the model; the shares are together 1.
func TestShares(t *testing.T) {
	r := rand.New(rand.NewSource(236))
	seen := map[api.Errno]int{}
	for i := range 3000 {
		m, digits := meas("5"), []int{1, 1, 2, 10, 60, 600}[i%6]
		for k := range r.Intn(12) {
			by, e := rat.New(pick(r, "", "-")+greatNumber(r, 1+r.Intn(digits)), pick(r, "1", greatNumber(r, 1+r.Intn(digits))))
			if e != api.OK {
				t.Fatal(e)
			}
			m.Sources = append(m.Sources, api.Source{Name: "s" + string(rune('a'+k)), By: by})
		}
		want, why := shares(m)
		got, e := spread.Budget(m)
		if !slices.Equal(got, want) || e != why {
			t.Fatalf("Budget(%s) = %s, %d, not %s, %d", short(m), short(got), e, short(want), why)
		}
		seen[e]++
		sum := new(big.Rat)
		for _, s := range got {
			sum.Add(sum, bigOf(s.By))
		}
		if len(got) > 0 && sum.Cmp(big.NewRat(1, 1)) != 0 {
			t.Errorf("Budget(%s): together %s", short(m), sum)
		}
	}
	if seen[api.OK] < 1000 || seen[api.ErrLarge] < 200 {
		t.Error(seen)
	}
}
