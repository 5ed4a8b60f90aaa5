package ledger_test

import (
	"math"
	"math/rand"
	"slices"
	"strings"
	"sync"
	"testing"

	"cubit/api"
	"cubit/ledger"
	"cubit/rat"
)

// The chapter's first example.
func TestExample(t *testing.T) {
	l := ledger.New(ownHouse(t))
	if n, e := l.Add(entry("length", "5", "1/10", "km", 3)); n != 1 || e != api.OK {
		t.Fatal(n, e)
	}
	if n, e := l.Correct(1, entry("length", "51/10", "1/10", "km", 4)); n != 2 || e != api.OK {
		t.Fatal(n, e)
	}
	if n, e := l.Correct(1, entry("length", "51/10", "1/10", "km", 4)); n != 0 || e != api.ErrVoid {
		t.Error(n, e)
	}
	if n, e := l.Correct(2, entry("length", "5", "0", "kg", 4)); n != 0 || e != api.ErrDim {
		t.Error(n, e)
	}
	if now := ids(l.Now()); !slices.Equal(now, []int{2}) {
		t.Error(now)
	}
	if chain, e := l.Chain(2); !slices.Equal(ids(chain), []int{1, 2}) || e != api.OK {
		t.Error(chain, e)
	}
	want := entry("length", "5100", "100", "m", 4)
	want.Id, want.Of = 2, 1
	if found, e := l.Ask(all("m")); len(found) != 1 || !sameEntry(found[0], want) || e != api.OK {
		t.Error(found, e)
	}
	if sum, e := l.Sum(all("m")); !sameMeas(sum, api.Meas{Value: number("5100"), Sources: []api.Source{{Name: "#2", By: number("100")}}}) || e != api.OK {
		t.Error(sum, e)
	}
	if sum, e := l.Sum(all("")); !sameMeas(sum, api.Meas{}) || e != api.ErrUnit {
		t.Error(sum, e)
	}
	if e := l.Void(2); e != api.OK || len(l.Now()) != 0 {
		t.Error(e, l.Now())
	}
	if e := l.Void(1); e != api.ErrVoid || l.Changes() != 3 {
		t.Error(e, l.Changes())
	}
	old, e := l.Back(1)
	if e != api.OK || !slices.Equal(ids(old.Now()), []int{1}) || old.Len() != 1 {
		t.Error(e, old.Now())
	}
}

// P26.1: New, and a nil ledger: ErrNil goes ahead of all else.
func TestNil(t *testing.T) {
	l := ledger.New(nil)
	if l != nil {
		t.Error("a ledger over nothing")
	}
	if n, e := l.Add(api.Entry{}); n != 0 || e != api.ErrNil {
		t.Error(n, e)
	}
	if n, e := l.Correct(0, api.Entry{}); n != 0 || e != api.ErrNil {
		t.Error(n, e)
	}
	if e := l.Void(1); e != api.ErrNil {
		t.Error(e)
	}
	if x, e := l.Get(1); !sameEntry(x, api.Entry{}) || e != api.ErrNil {
		t.Error(x, e)
	}
	if x, e := l.Chain(1); len(x) > 0 || e != api.ErrNil {
		t.Error(x, e)
	}
	if x, e := l.Ask(api.Query{Unit: "foo"}); len(x) > 0 || e != api.ErrNil {
		t.Error(x, e)
	}
	if x, e := l.Sum(api.Query{}); !sameMeas(x, api.Meas{}) || e != api.ErrNil {
		t.Error(x, e)
	}
	if x, e := l.Back(0); x != nil || e != api.ErrNil {
		t.Error(x, e)
	}
	if len(l.All()) > 0 || len(l.Now()) > 0 || l.Len() != 0 || l.Changes() != 0 {
		t.Error("a nil ledger has something")
	}
	check(t, ledger.New(ownHouse(t)), newModel(ownHouse(t)))
}

// P26.1: what can be entered, just at its bounds.
func TestAdd(t *testing.T) {
	h := ownHouse(t)
	l, m := ledger.New(h), newModel(h)
	long, tags := strings.Repeat("x", 40), strings.Split("1 2 3 4 5 6 7 8", " ")
	for i, e := range []api.Entry{entry("!", "0", "0", "m", 0), entry("~", "-1e599", "1e599", "km / h", 1000000, tags...), entry(long, "1e-599", "1e-599", "1", 5, long), entry("a", "1", "1", "degC", 5, "a"), entry("a", "1", "1", strings.Repeat(" ", 65535)+"m", 5, "#", "a")} {
		e.Id, e.Of, e.Void = 7, 9, true
		want, no := m.add(e)
		if n, why := l.Add(e); n != want || n != i+1 || why != no || why != api.OK {
			t.Errorf("Add(%s) = %d, %d", short(e), n, why)
		}
	}
	check(t, l, m)
}

// P26.1: the errors in their order: of each two the first one is told, by Add and by Correct.
func TestAddRefused(t *testing.T) {
	h := ownHouse(t)
	l := ledger.New(h)
	l.Add(entry("length", "1", "0", "m", 1, "a"))
	right := entry("length", "2", "1", "m", 1, "a", "b")
	many := strings.Split("1 2 3 4 5 6 7 8 8 \x7f", " ")
	faults := []struct {
		want  api.Errno
		spoil func(e *api.Entry)
	}{
		{api.ErrForm, func(e *api.Entry) { e.What = "" }},
		{api.ErrForm, func(e *api.Entry) { e.What = "a b" }},
		{api.ErrForm, func(e *api.Entry) { e.What = "a\x7f" }},
		{api.ErrForm, func(e *api.Entry) { e.What = strings.Repeat("a", 41) }},
		{api.ErrForm, func(e *api.Entry) { e.Value = api.Rat{Num: "2", Den: "4"} }},
		{api.ErrForm, func(e *api.Entry) { e.Spread = api.Rat{} }},
		{api.ErrBelow, func(e *api.Entry) { e.Spread = number("-1/1000") }},
		{api.ErrUnit, func(e *api.Entry) { e.Unit = "foo" }},
		{api.ErrSyntax, func(e *api.Entry) { e.Unit = "" }},
		{api.ErrForm, func(e *api.Entry) { e.Unit = "m + m" }},
		{api.ErrAffine, func(e *api.Entry) { e.Unit = "2 degC" }},
		{api.ErrSize, func(e *api.Entry) { e.Unit = strings.Repeat(" ", 65536) + "m" }},
		{api.ErrArg, func(e *api.Entry) { e.Day = -1 }},
		{api.ErrArg, func(e *api.Entry) { e.Day = 1000001 }},
		{api.ErrArg, func(e *api.Entry) { e.Day = math.MinInt }},
		{api.ErrSize, func(e *api.Entry) { e.Tags = many }},
		{api.ErrForm, func(e *api.Entry) { e.Tags = append(slices.Clone(e.Tags[:min(len(e.Tags), 2)]), "a", "") }},
		{api.ErrTwice, func(e *api.Entry) { e.Tags = []string{"b", "a", "b"} }},
		{api.ErrArg, func(e *api.Entry) { e.What = "other" }},
		{api.ErrDim, func(e *api.Entry) { e.Unit = "m / s" }},
	}
	for i := range faults {
		for j := i; j < len(faults); j++ {
			e := right
			faults[j].spoil(&e)
			faults[i].spoil(&e)
			if want := fault(h, e); want != faults[i].want && i < len(faults)-2 {
				t.Errorf("the model of %s: %d, not %d", short(e), want, faults[i].want)
			}
			if n, why := l.Correct(1, e); n != 0 || why != faults[i].want {
				t.Errorf("Correct(1, %s) = %d, %d, not %d", short(e), n, why, faults[i].want)
			}
			if i >= len(faults)-2 {
				continue // it can be added, but it corrects nothing here
			}
			if n, why := l.Add(e); n != 0 || why != faults[i].want {
				t.Errorf("Add(%s) = %d, %d, not %d", short(e), n, why, faults[i].want)
			}
		}
	}
	// P26.10.
	if l.Len() != 1 || l.Changes() != 1 || len(l.Now()) != 1 {
		t.Error("what was refused has changed something")
	}
	if n, e := l.Correct(1, right); n != 2 || e != api.OK {
		t.Error(n, e)
	}
}

// P26.2: which entries may be corrected, or made void; that goes ahead of what is wrong with the new one.
func TestCorrectAndVoid(t *testing.T) {
	h := ownHouse(t)
	l, m := ledger.New(h), newModel(h)
	for range 4 {
		l.Add(entry("a", "1", "0", "m", 1))
		m.add(entry("a", "1", "0", "m", 1))
	}
	correct := func(of int, e api.Entry, want api.Errno) {
		t.Helper()
		id, why := m.correct(of, e)
		if n, e := l.Correct(of, e); n != id || e != why || e != want {
			t.Errorf("Correct(%d) = %d, %d, not %d", of, n, e, want)
		}
		check(t, l, m)
	}
	void := func(id int, want api.Errno) {
		t.Helper()
		why := m.void(id)
		if e := l.Void(id); e != why || e != want {
			t.Errorf("Void(%d) = %d, not %d", id, e, want)
		}
		check(t, l, m)
	}
	bad, right := api.Entry{What: " "}, entry("a", "2", "0", "km", 1)
	for _, id := range []int{0, -1, 5, math.MinInt, math.MaxInt} {
		correct(id, bad, api.ErrEntry)
		void(id, api.ErrEntry)
	}
	void(2, api.OK)
	void(2, api.ErrVoid)
	correct(2, bad, api.ErrVoid)
	correct(1, bad, api.ErrForm)
	correct(1, right, api.OK) // 5
	correct(1, bad, api.ErrVoid)
	correct(5, entry("a", "3", "1", "mi", 9, "t"), api.OK) // 6
	correct(5, right, api.ErrVoid)
	void(1, api.ErrVoid)
	void(5, api.ErrVoid)
	void(6, api.OK)
	void(6, api.ErrVoid)
	void(5, api.ErrVoid) // what a void one corrects is corrected none the less
	correct(5, right, api.ErrVoid)
	correct(3, entry("b", "1", "0", "s", 1), api.ErrArg)
	correct(3, entry("a", "1", "0", "s", 1), api.ErrDim)
	correct(3, entry("a", "1", "0", "m^2 / m", 1), api.OK)
	if now := ids(l.Now()); !slices.Equal(now, []int{4, 7}) {
		t.Error(now)
	}
	if chain, e := l.Chain(6); !slices.Equal(ids(chain), []int{1, 5, 6}) || e != api.OK {
		t.Error(chain, e)
	}
}

// P26.1, P26.2: ErrFull, behind all else.
func TestFull(t *testing.T) {
	h := ownHouse(t)
	l := ledger.New(h)
	e := entry("w", "1", "1", "m", 0, "t")
	for i := range api.MaxEntries {
		if n, why := l.Add(e); n != i+1 || why != api.OK {
			t.Fatal(n, why)
		}
	}
	for n, c := range []struct {
		e    api.Entry
		want api.Errno
	}{{e, api.ErrFull}, {entry("w", "1", "1", "m", 0, "t", "t"), api.ErrTwice}, {entry("w", "1", "1", "foo", 0), api.ErrUnit}, {entry("v", "1", "1", "m", 0), api.ErrArg}, {entry("w", "1", "1", "s", 0), api.ErrDim}} {
		if id, why := l.Correct(7, c.e); id != 0 || why != c.want {
			t.Errorf("Correct: %d, %d, not %d", id, why, c.want)
		}
		if n > 2 {
			c.want = api.ErrFull
		}
		if id, why := l.Add(c.e); id != 0 || why != c.want {
			t.Errorf("Add: %d, %d, not %d", id, why, c.want)
		}
	}
	if l.Len() != api.MaxEntries || l.Changes() != api.MaxEntries {
		t.Error(l.Len(), l.Changes())
	}
	// What is there may be made void; there is no more room for that.
	if why := l.Void(4096); why != api.OK || l.Changes() != 4097 || len(l.Now()) != 4095 {
		t.Error(why, l.Changes())
	}
	if _, why := l.Add(e); why != api.ErrFull {
		t.Error(why)
	}
	old, why := l.Back(4095)
	if why != api.OK || old.Len() != 4095 {
		t.Fatal(why)
	}
	if id, why := old.Correct(4095, e); id != 4096 || why != api.OK {
		t.Error(id, why)
	}
	if x, _ := l.Get(4096); x.Of != 0 || !x.Void {
		t.Error(x)
	}
}

// work: does something of chance with a ledger and its model; what came of it.
func work(t *testing.T, r *rand.Rand, l *ledger.Ledger, m *model, odd bool) api.Errno {
	t.Helper()
	id := r.Intn(len(m.entries)+3) - 1
	switch e := grown(r, odd); r.Intn(5) {
	case 0, 1:
		want, why := m.add(e)
		if n, no := l.Add(e); n != want || no != why {
			t.Errorf("Add(%s) = %d, %d, not %d, %d", short(e), n, no, want, why)
		}
		return why
	case 2, 3:
		if id >= 1 && id <= len(m.entries) && r.Intn(3) > 0 {
			e.What = m.entries[id-1].What
			e.Unit = m.entries[id-1].Unit
		}
		want, why := m.correct(id, e)
		if n, no := l.Correct(id, e); n != want || no != why {
			t.Errorf("Correct(%d, %s) = %d, %d, not %d, %d", id, short(e), n, no, want, why)
		}
		return why
	}
	why := m.void(id)
	if no := l.Void(id); no != why {
		t.Errorf("Void(%d) = %d, not %d", id, no, why)
	}
	return why
}

// P26.1 to P26.6, P26.8, P26.10, P9: ledgers of chance against the model, each old view too.
func TestAgainstTheModel(t *testing.T) {
	r := rand.New(rand.NewSource(261))
	seen, asked, summed := map[api.Errno]int{}, map[api.Errno]int{}, map[api.Errno]int{}
	for i, h := range houses(t) {
		for range 120 {
			l, m := ledger.New(h), newModel(h)
			for range 10 + r.Intn(60) {
				seen[work(t, r, l, m, i == 1)]++
				for range 4 {
					ask, sum := checkQuery(t, l, m, query(r, i == 1))
					asked[ask]++
					summed[sum]++
				}
			}
			check(t, l, m)
			for n := range m.views {
				old, e := l.Back(n)
				if e != api.OK {
					t.Fatal(n, e)
				}
				then := m.back(n)
				check(t, old, then)
				checkQuery(t, old, then, query(r, i == 1))
			}
		}
	}
	for _, e := range []api.Errno{api.OK, api.ErrForm, api.ErrBelow, api.ErrUnit, api.ErrArg, api.ErrSize, api.ErrTwice, api.ErrEntry, api.ErrVoid, api.ErrDim, api.ErrSyntax} {
		if seen[e] < 10 {
			t.Error("so few of", e, seen)
		}
	}
	for _, e := range []api.Errno{api.OK, api.ErrLarge, api.ErrUnit, api.ErrSyntax, api.ErrForm} {
		if asked[e] < 10 || summed[e] < 10 {
			t.Error("so few of", e, asked, summed)
		}
	}
}

// P26.6, P26.8, P9: what is done with an old view, or behind it, does nothing to the other.
func TestBack(t *testing.T) {
	r := rand.New(rand.NewSource(262))
	h := ownHouse(t)
	for range 30 {
		l, m := ledger.New(h), newModel(h)
		for range 25 {
			work(t, r, l, m, false)
		}
		for _, n := range []int{-1, l.Changes() + 1, math.MinInt, math.MaxInt} {
			if old, e := l.Back(n); old != nil || e != api.ErrArg {
				t.Errorf("Back(%d): %d", n, e)
			}
		}
		n := r.Intn(l.Changes() + 1)
		old, _ := l.Back(n)
		older, _ := old.Back(n / 2)
		then, earlier := m.back(n), m.back(n/2)
		for range 40 {
			switch r.Intn(3) {
			case 0:
				work(t, r, l, m, false)
			case 1:
				work(t, r, old, then, false)
			default:
				work(t, r, older, earlier, false)
			}
		}
		check(t, l, m)
		check(t, old, then)
		check(t, older, earlier)
		whole, _ := l.Back(l.Changes())
		check(t, whole, m)
	}
}

// P26.7, P26.9: nothing goes; of a chain only the last one may count, each corrects the one ahead of it, with one What.
func TestNothingGoes(t *testing.T) {
	r := rand.New(rand.NewSource(263))
	h := ownHouse(t)
	for range 20 {
		l, m := ledger.New(h), newModel(h)
		for range 60 {
			before, changes := l.All(), l.Changes()
			e := work(t, r, l, m, false)
			after := l.All()
			if e != api.OK && (!sameEntries(before, after) || l.Changes() != changes) || e == api.OK && l.Changes() != changes+1 || len(after) < len(before) {
				t.Error("something was changed, or went, by", e)
			}
			for i, b := range before {
				a := after[i]
				if b.Void && !a.Void {
					t.Error("no more void:", a)
				}
				a.Void = b.Void
				if !sameEntry(a, b) {
					t.Errorf("%s became %s", short(b), short(a))
				}
			}
		}
		now := ids(l.Now())
		for id := 1; id <= l.Len(); id++ {
			chain, _ := l.Chain(id)
			of := 0
			for i, e := range chain {
				if e.Of != of || e.What != chain[0].What || m.unit(e.Unit).Dim != m.unit(chain[0].Unit).Dim || i < len(chain)-1 && slices.Contains(now, e.Id) {
					t.Errorf("the chain of %d: %s", id, short(chain))
				}
				of = e.Id
			}
			if of != id {
				t.Errorf("the chain of %d: %s", id, short(chain))
			}
		}
	}
}

// What is handed in is not kept, what is answered is new.
func TestMemory(t *testing.T) {
	l := ledger.New(ownHouse(t))
	tags := append(make([]string, 0, 4), "a", "b")
	e := entry("x", "1", "1", "m", 1)
	e.Tags = tags
	l.Add(e)
	l.Correct(1, e)
	tags[0], tags[:4][2] = "gone", "more"
	want := []string{"a", "b"}
	spoil := func(entries []api.Entry) {
		for i := range entries {
			entries[i].Tags[0], entries[i].What = "gone", "gone"
			_ = append(entries[i].Tags, "gone", "gone")
			entries[i].Tags = nil
		}
		_ = append(entries, api.Entry{})
	}
	old, _ := l.Back(1)
	spoil(l.All())
	spoil(l.Now())
	spoil(old.All())
	chain, _ := l.Chain(2)
	spoil(chain)
	one, _ := l.Get(1)
	spoil([]api.Entry{one})
	found, _ := l.Ask(all(""))
	spoil(found)
	found, _ = l.Ask(all("km"))
	spoil(found)
	sum, _ := l.Sum(all("m"))
	sum.Sources[0] = api.Source{}
	for _, e := range append(l.All(), old.All()...) {
		if !slices.Equal(e.Tags, want) || e.What != "x" {
			t.Error(e)
		}
	}
	if sum, _ := l.Sum(all("m")); sum.Sources[0].Name != "#2" || sum.Value != rat.Of(1) {
		t.Error(sum)
	}
	if tags[:4][2] != "more" || tags[1] != "b" {
		t.Error(tags[:4])
	}
}

// Many may ask one ledger at one time.
func TestManyAtOneTime(t *testing.T) {
	r := rand.New(rand.NewSource(266))
	h := ownHouse(t)
	l, m := ledger.New(h), newModel(h)
	for range 60 {
		work(t, r, l, m, false)
	}
	var wait sync.WaitGroup
	for range 8 {
		wait.Go(func() {
			for range 5 {
				check(t, l, m)
				checkQuery(t, l, m, all("m"))
				old, _ := l.Back(7)
				check(t, old, m.back(7))
			}
		})
	}
	wait.Wait()
}
