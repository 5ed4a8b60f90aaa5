package book_test

import (
	"math"
	"math/rand"
	"slices"
	"strconv"
	"strings"
	"testing"

	"cubit/api"
	"cubit/book"
	"cubit/house"
	"cubit/ledger"
	"cubit/rat"
)

// checkSame: do two ledgers answer the same, but for Back?
func checkSame(t *testing.T, a, b *ledger.Ledger) {
	t.Helper()
	if !sameEntries(a.All(), b.All()) || !sameEntries(a.Now(), b.Now()) || a.Len() != b.Len() || a.Changes() != b.Changes() {
		t.Errorf("%s: not %s; %d changes, %d", short(a.All()), short(b.All()), a.Changes(), b.Changes())
	}
	for id := -1; id < a.Len()+2; id++ {
		e, why := a.Get(id)
		f, fault := b.Get(id)
		chain, no := a.Chain(id)
		other, never := b.Chain(id)
		if !sameEntry(e, f) || why != fault || !sameEntries(chain, other) || no != never {
			t.Errorf("of %d: %s, %s", id, short(e), short(f))
		}
	}
	for _, q := range []api.Query{{To: 1000000}, {To: 1000000, Unit: "m"}, {To: 1000000, Unit: "K"}, {What: "length", From: 3, To: 50, Unit: "km"}, {Tag: "dry", To: 99, Unit: "s"}, {Tag: `\t`, To: 99, Unit: "foo"}} {
		e, why := a.Ask(q)
		f, fault := b.Ask(q)
		m, no := a.Sum(q)
		n, never := b.Sum(q)
		if !sameEntries(e, f) || why != fault || m.Value != n.Value || !slices.Equal(m.Sources, n.Sources) || no != never {
			t.Errorf("Ask(%+v): %s, %d, not %s, %d", q, short(f), fault, short(e), why)
		}
	}
}

// P29.2, P29.5: what was saved and loaded answers what it answered, and takes what it took.
func TestSaveAndLoad(t *testing.T) {
	r := rand.New(rand.NewSource(296))
	for _, h := range []*house.House{ownHouse(t), otherHouse(t)} {
		voids, corrections := 0, 0
		for range 150 {
			l := grown(r, h, r.Intn(40))
			text, why := book.Save(l)
			if want, fault, _ := book.Print(l.All()); text != want || why != fault || why != api.OK {
				t.Fatal(short(text), why, fault)
			}
			again, why, at := book.Load(h, text)
			if why != api.OK || at != 0 {
				t.Fatal(short(text), why, at)
			}
			checkSame(t, l, again)
			for _, e := range l.All() {
				if e.Void {
					voids++
				}
				if e.Of > 0 {
					corrections++
				}
			}
			for id := 1; id < l.Len()+2; id++ {
				if why, fault := l.Void(id), again.Void(id); why != fault {
					t.Errorf("Void(%d): %d, not %d", id, fault, why)
				}
			}
			if more, why := again.Add(sample()); more != l.Len()+1 || why != api.OK {
				t.Error(more, why)
			}
			if more, why := l.Add(sample()); more != again.Len() || why != api.OK {
				t.Error(more, why)
			}
			checkSame(t, l, again)
		}
		if voids < 100 || corrections < 100 {
			t.Error("so few:", voids, corrections)
		}
	}
}

// P29.2: nil, and a ledger whose text would be too long.
func TestSaveRefused(t *testing.T) {
	if text, why := book.Save(nil); text != "" || why != api.ErrNil {
		t.Error(text, why)
	}
	l := ledger.New(ownHouse(t))
	if text, why := book.Save(l); text != "" || why != api.OK {
		t.Error(text, why)
	}
	e := sample()
	e.Id = 0
	e.Value, e.Spread = number("1e599"), rat.Of(0)
	for n := 1; ; n++ {
		l.Add(e)
		want, fault, _ := printModel(l.All())
		text, why := book.Save(l)
		if text != want || why != fault {
			t.Fatal(n, short(text), why, fault)
		}
		if why == api.ErrSize {
			break
		}
	}
	if l.Len() != 106 {
		t.Error(l.Len())
	}
	for l.Len() < 4096 {
		l.Add(sample())
	}
	if text, why := book.Save(l); text != "" || why != api.ErrSize {
		t.Error(len(text), why)
	}
}

// P29.2: what a text's lines are refused with, at which line.
func TestLoadRefused(t *testing.T) {
	h := ownHouse(t)
	first := "1\t0\t0\t+\ta\t1\t0\tm\n"
	for _, c := range []struct {
		text string
		why  api.Errno
		at   int
	}{
		{"", api.OK, 0}, {first, api.OK, 0}, {first + "2\t1\t0\t+\ta\t1\t0\tkm\n", api.OK, 0}, {first + "2\t1\t0\tx\ta\t1\t0\tkm\n", api.OK, 0},
		{"x", api.ErrLine, 0}, {first + "\n", api.ErrLine, 1}, {first + "2\t0\t0\t+\ta\t1/0\t0\tm\n", api.ErrZero, 1},
		// What can not be read goes ahead of what can not be entered.
		{"7\t0\t0\t+\ta\t1\t0\tm\n" + first + "x\n", api.ErrLine, 2},
		{"2\t0\t0\t+\ta\t1\t0\tm\n", api.ErrTwice, 0}, {first + first, api.ErrTwice, 1}, {first + "3\t0\t0\t+\ta\t1\t0\tm\n", api.ErrTwice, 1}, {first + "1\t1\t0\t+\ta\t1\t0\tm\n", api.ErrTwice, 1},
		{first + "2\t3\t0\t+\ta\t1\t0\tm\n", api.ErrEntry, 1}, {first + "2\t2\t0\t+\ta\t1\t0\tm\n", api.ErrEntry, 1}, {"1\t1\t0\t+\ta\t1\t0\tm\n", api.ErrEntry, 0},
		{first + "2\t1\t0\t+\ta\t1\t0\tm\n" + "3\t1\t0\t+\ta\t1\t0\tm\n", api.ErrVoid, 2}, {first + "2\t1\t0\t+\ta\t1\t0\tm\n" + "3\t2\t0\t+\ta\t1\t0\tm\n", api.OK, 0},
		{first + "2\t1\t0\t+\tb\t1\t0\tm\n", api.ErrArg, 1}, {first + "2\t1\t0\t+\ta\t1\t0\ts\n", api.ErrDim, 1}, {first + "2\t1\t0\t+\tb\t1\t0\tfoo\n", api.ErrUnit, 1},
		{"1\t0\t0\t+\t\t1\t0\tm\n", api.ErrForm, 0}, {"1\t0\t0\t+\ta b\t1\t0\tm\n", api.ErrForm, 0}, {"1\t0\t0\t+\ta\t1\t0\t\n", api.ErrSyntax, 0}, {first + "2\t0\t0\t+\ta\t1\t0\tm +\n", api.ErrSyntax, 1}, {"1\t0\t0\t+\ta\t1\t0\tm\t\n", api.ErrForm, 0}, {"1\t0\t0\t+\ta\t1\t0\tm\tb\tb\n", api.ErrTwice, 0},
		// Void comes behind all others: of one that is corrected it is refused, and the others' faults go ahead of it.
		{"1\t0\t0\tx\ta\t1\t0\tm\n" + "2\t1\t0\t+\ta\t1\t0\tm\n", api.ErrVoid, 0}, {"1\t0\t0\tx\ta\t1\t0\tm\n" + "2\t1\t0\t+\ta\t1\t0\tm\n" + "3\t0\t0\t+\ta\t1\t0\tfoo\n", api.ErrUnit, 2}, {first + "2\t0\t0\tx\ta\t1\t0\tm\n" + "3\t2\t0\tx\ta\t1\t0\tm\n", api.ErrVoid, 1}, {"1\t0\t0\tx\ta\t1\t0\tm\n" + "2\t0\t0\tx\ta\t1\t0\tm\n", api.OK, 0},
	} {
		l, why, at := book.Load(h, c.text)
		if why != c.why || at != c.at || (l == nil) != (why != api.OK) {
			t.Errorf("Load(%q) = %d, %d, not %d, %d", c.text, why, at, c.why, c.at)
		}
		if l == nil {
			continue
		}
		if text, why := book.Save(l); text != c.text || why != api.OK {
			t.Errorf("Save of Load(%q) = %q, %d", c.text, text, why)
		}
	}
	for _, text := range []string{"", "x", first} {
		if l, why, at := book.Load(nil, text); l != nil || why != api.ErrNil || at != 0 {
			t.Error(l, why, at)
		}
	}
	if l, why, at := book.Load(h, strings.Repeat("x", 65537)); l != nil || why != api.ErrSize || at != 0 {
		t.Error(l, why, at)
	}
}

// P29.2: any text: Parse's errors, or those of the ledger, line by line.
func TestLoadAgainstTheLedger(t *testing.T) {
	r := rand.New(rand.NewSource(297))
	h := ownHouse(t)
	told := make(map[api.Errno]int)
	for range 3000 {
		all := grown(r, h, r.Intn(12)).All()
		if len(all) > 0 && r.Intn(2) == 0 {
			e := &all[r.Intn(len(all))]
			pick(r, func() { e.Void = true }, func() { e.Of = r.Intn(4) }, func() { e.Unit = pick(r, "m", "s", "foo") }, func() { e.Id++ })()
		}
		text, _, _ := book.Print(all)
		b := []byte(text)
		for range r.Intn(3) {
			if len(b) > 0 {
				at := r.Intn(len(b))
				b = slices.Replace(b, at, at+1, []byte(pick(r, "1", "2", "3", "x", "+", "m", "s", ""))...)
			}
		}
		text = string(b)
		l, why, at := book.Load(h, text)
		want, fault, place := loadModel(h, text)
		told[why]++
		if why != fault || at != place || (l == nil) != (want == nil) || l.Len() != want.Len() {
			t.Errorf("Load(%s) = %d, %d, not %d, %d", short(text), why, at, fault, place)
			continue
		}
		if l != nil {
			checkSame(t, want, l)
		}
	}
	for _, why := range []api.Errno{api.OK, api.ErrLine, api.ErrTwice, api.ErrEntry, api.ErrVoid, api.ErrArg, api.ErrDim, api.ErrUnit} {
		if told[why] < 5 {
			t.Errorf("%d is told %d times", why, told[why])
		}
	}
}

// loadModel: P29.2 in its own words.
func loadModel(h *house.House, text string) (*ledger.Ledger, api.Errno, int) {
	entries, why, at := parseModel(text)
	if why != api.OK {
		return nil, why, at
	}
	l := ledger.New(h)
	for at, e := range entries {
		id, why := 0, api.OK
		if e.Of == 0 {
			id, why = l.Add(e)
		} else {
			id, why = l.Correct(e.Of, e)
		}
		if why != api.OK {
			return nil, why, at
		}
		if id != e.Id {
			return nil, api.ErrTwice, at
		}
	}
	for at, e := range entries {
		if e.Void {
			if why := l.Void(e.Id); why != api.OK {
				return nil, why, at
			}
		}
	}
	return l, api.OK, 0
}

// P29.3.
func TestDiff(t *testing.T) {
	with := func(id int, change func(*api.Entry)) api.Entry {
		e := sample()
		e.Id = id
		change(&e)
		return e
	}
	same := func(*api.Entry) {}
	for _, c := range []struct {
		a, b []api.Entry
		want []string
	}{
		{nil, nil, nil},
		{[]api.Entry{sample()}, nil, []string{"- 1"}},
		{nil, []api.Entry{sample()}, []string{"+ 1"}},
		{[]api.Entry{sample()}, []api.Entry{with(1, func(e *api.Entry) { e.Day, e.Void = 4, true })}, []string{"~ 1 Day Void"}},
		{[]api.Entry{with(10, same), with(9, same), with(-3, same)}, []api.Entry{with(2, same), with(10, func(e *api.Entry) { e.What = "" }), with(math.MinInt, same)}, []string{"+ -9223372036854775808", "- -3", "+ 2", "- 9", "~ 10 What"}},
		{[]api.Entry{sample()}, []api.Entry{{Id: 1, Tags: []string{""}, Of: 1, Void: true}}, []string{"~ 1 What Value Spread Unit Day Tags Of Void"}},
		{[]api.Entry{with(1, func(e *api.Entry) { e.Tags = []string{} })}, []api.Entry{sample()}, nil},
		{[]api.Entry{with(1, func(e *api.Entry) { e.Tags = []string{"a", "b"} })}, []api.Entry{with(1, func(e *api.Entry) { e.Tags = []string{"b", "a"} })}, []string{"~ 1 Tags"}},
		{[]api.Entry{with(1, func(e *api.Entry) { e.Value.Den = "" })}, []api.Entry{sample()}, []string{"~ 1 Value"}},
		{[]api.Entry{with(0, func(e *api.Entry) { e.Spread.Num = "x" })}, []api.Entry{with(0, same)}, []string{"~ 0 Spread"}},
		// Of several with one number the first one counts.
		{[]api.Entry{with(5, same), with(5, func(e *api.Entry) { e.Unit = "s" })}, []api.Entry{with(5, same), with(5, func(e *api.Entry) { e.Of = 2 })}, nil},
		{[]api.Entry{with(5, func(e *api.Entry) { e.Unit = "s" }), with(5, same)}, []api.Entry{with(5, same)}, []string{"~ 5 Unit"}},
	} {
		if got := book.Diff(c.a, c.b); !slices.Equal(got, c.want) {
			t.Errorf("Diff(%s, %s) = %q", short(c.a), short(c.b), got)
		}
	}
}

// diffModel: P29.3 in its own words.
func diffModel(a, b []api.Entry) []string {
	first := func(l []api.Entry, id int) *api.Entry {
		if at := slices.IndexFunc(l, func(e api.Entry) bool { return e.Id == id }); at >= 0 {
			return &l[at]
		}
		return nil
	}
	var lines []string
	for id := -2; id < 30; id++ {
		x, y := first(a, id), first(b, id)
		switch {
		case x == nil && y == nil:
		case y == nil:
			lines = append(lines, "- "+strconv.Itoa(id))
		case x == nil:
			lines = append(lines, "+ "+strconv.Itoa(id))
		case !sameEntry(*x, *y):
			line := "~ " + strconv.Itoa(id)
			for _, one := range []struct {
				name string
				put  func(*api.Entry)
			}{
				{"What", func(e *api.Entry) { e.What = y.What }}, {"Value", func(e *api.Entry) { e.Value = y.Value }}, {"Spread", func(e *api.Entry) { e.Spread = y.Spread }}, {"Unit", func(e *api.Entry) { e.Unit = y.Unit }}, {"Day", func(e *api.Entry) { e.Day = y.Day }}, {"Tags", func(e *api.Entry) { e.Tags = y.Tags }}, {"Of", func(e *api.Entry) { e.Of = y.Of }}, {"Void", func(e *api.Entry) { e.Void = y.Void }},
			} {
				changed := *x
				one.put(&changed)
				if !sameEntry(changed, *x) {
					line += " " + one.name
				}
			}
			lines = append(lines, line)
		}
	}
	return lines
}

// P29.3, P29.6: against the model; of a list and itself; the other way round.
func TestDiffLaws(t *testing.T) {
	r := rand.New(rand.NewSource(298))
	for range 3000 {
		list := func() []api.Entry {
			l := make([]api.Entry, r.Intn(8))
			for i := range l {
				l[i] = sample()
				if r.Intn(3) == 0 {
					l[i] = chance(r)
				}
				l[i].Id = r.Intn(12) - 2
			}
			return l
		}
		a, b := list(), list()
		got := book.Diff(a, b)
		if !slices.Equal(got, diffModel(a, b)) {
			t.Errorf("Diff(%s, %s) = %q, not %q", short(a), short(b), got, diffModel(a, b))
		}
		if same := book.Diff(a, a); len(same) > 0 {
			t.Errorf("Diff of %s and itself: %q", short(a), same)
		}
		turned := book.Diff(b, a)
		for i, line := range turned {
			turned[i] = strings.NewReplacer("+ ", "- ", "- ", "+ ").Replace(line)
		}
		if !slices.Equal(turned, got) {
			t.Errorf("Diff(%s, %s) = %q, turned %q", short(a), short(b), got, turned)
		}
	}
}
