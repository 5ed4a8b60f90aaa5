package ledger_test

import (
	"fmt"
	"math/big"
	"math/rand"
	"slices"
	"strings"
	"testing"

	"cubit/api"
	"cubit/conv"
	"cubit/decl"
	"cubit/house"
	"cubit/ledger"
	"cubit/rat"
)

// short: a thing as text, but not all of it.
func short(v any) string { return fmt.Sprintf("%.300s", fmt.Sprintf("%+v", v)) }

func pick[T any](r *rand.Rand, l ...T) T { return l[r.Intn(len(l))] }

func ownHouse(t testing.TB) *house.House {
	t.Helper()
	h, e := house.Own()
	if e != api.OK {
		t.Fatal(e)
	}
	return h
}

// oddities: factors at the bounds, and scales whose numbers are large, or large only on the way.
const oddities = `base metre m L 1 si
base second s T 1 none
base kelvin K H 1 none
prefix kilo k 1000 si
prefix huge h 1e599 si
unit big big 1e300 si m
unit most most 1e599 none m
unit least least 1e-599 none m
unit third third 1/3 none m
scale celsius C 1 5463/20 K
scale odd o 3/7 -22/5 K
scale back b 1e300 -9e599 K
alias meter m
`

func oddHouse(t testing.TB) *house.House {
	t.Helper()
	l, e, at := decl.Parse(oddities)
	if e != api.OK {
		t.Fatal(e, at)
	}
	h, e, at := house.Build(l)
	if e != api.OK {
		t.Fatal(e, at)
	}
	return h
}

func houses(t testing.TB) []*house.House { return []*house.House{ownHouse(t), oddHouse(t)} }

// number: of a text as rat reads it.
func number(text string) api.Rat {
	v, e, _ := rat.Parse(text)
	if e != api.OK {
		panic("no number: " + text)
	}
	return v
}

// entry: of what, a value, a spread, a unit, on a day, with tags.
func entry(what, value, spread, unit string, day int, tags ...string) api.Entry {
	return api.Entry{What: what, Value: number(value), Spread: number(spread), Unit: unit, Day: day, Tags: tags}
}

// all: of any day.
func all(unit string) api.Query { return api.Query{To: 1000000, Unit: unit} }

func sameEntry(a, b api.Entry) bool {
	return a.Id == b.Id && a.What == b.What && a.Value == b.Value && a.Spread == b.Spread && a.Unit == b.Unit && a.Day == b.Day && slices.Equal(a.Tags, b.Tags) && a.Of == b.Of && a.Void == b.Void
}

func sameEntries(a, b []api.Entry) bool { return slices.EqualFunc(a, b, sameEntry) }

func sameMeas(a, b api.Meas) bool { return a.Value == b.Value && slices.Equal(a.Sources, b.Sources) }

func ids(l []api.Entry) []int {
	var n []int
	for _, e := range l {
		n = append(n, e.Id)
	}
	return n
}

func bigOf(r api.Rat) *big.Rat {
	v, ok := new(big.Rat).SetString(r.Num + "/" + r.Den)
	if !ok {
		panic("no number: " + r.Num + "/" + r.Den)
	}
	return v
}

// told: a number, or ErrLarge.
func told(v *big.Rat) (api.Rat, api.Errno) {
	num, den := v.Num().String(), v.Denom().String()
	if len(strings.TrimPrefix(num, "-")) > 600 || len(den) > 600 {
		return api.Rat{}, api.ErrLarge
	}
	return api.Rat{Num: num, Den: den}, api.OK
}

// model: a ledger by the chapter's words: its entries, and those that it had at each change.
type model struct {
	h       *house.House
	entries []api.Entry
	views   [][]api.Entry
}

func newModel(h *house.House) *model { return &model{h: h, views: [][]api.Entry{nil}} }

func (m *model) changed() {
	view := slices.Clone(m.entries)
	for i := range view {
		view[i].Tags = slices.Clone(view[i].Tags)
	}
	m.views = append(m.views, view)
}

// back: as it was.
func (m *model) back(n int) *model {
	old := &model{h: m.h, views: slices.Clone(m.views[:n+1])}
	old.entries = slices.Clone(m.views[n])
	return old
}

func counts(l []api.Entry, id int) bool {
	return !l[id-1].Void && !slices.ContainsFunc(l, func(e api.Entry) bool { return e.Of == id })
}

func isWord(s string) bool {
	return len(s) >= 1 && len(s) <= 40 && !strings.ContainsFunc(s, func(r rune) bool { return r < 33 || r > 126 })
}

// fault: Add's errors of an entry, but ErrFull.
func fault(h *house.House, e api.Entry) api.Errno {
	if !isWord(e.What) || !rat.Right(e.Value) || !rat.Right(e.Spread) {
		return api.ErrForm
	}
	if e.Spread.Num[0] == '-' {
		return api.ErrBelow
	}
	if _, why, _ := conv.Unit(h, e.Unit); why != api.OK {
		return why
	}
	if e.Day < 0 || e.Day > 1000000 {
		return api.ErrArg
	}
	if len(e.Tags) > 8 {
		return api.ErrSize
	}
	seen := map[string]bool{}
	for _, tag := range e.Tags {
		if !isWord(tag) {
			return api.ErrForm
		}
		seen[tag] = true
	}
	if len(seen) < len(e.Tags) {
		return api.ErrTwice
	}
	return api.OK
}

func (m *model) put(e api.Entry, of int) (int, api.Errno) {
	if len(m.entries) >= 4096 {
		return 0, api.ErrFull
	}
	e.Id, e.Of, e.Void = len(m.entries)+1, of, false
	e.Tags = slices.Clone(e.Tags)
	m.entries = append(m.entries, e)
	m.changed()
	return e.Id, api.OK
}

func (m *model) add(e api.Entry) (int, api.Errno) {
	if why := fault(m.h, e); why != api.OK {
		return 0, why
	}
	return m.put(e, 0)
}

func (m *model) standing(id int) api.Errno {
	if id < 1 || id > len(m.entries) {
		return api.ErrEntry
	}
	if !counts(m.entries, id) {
		return api.ErrVoid
	}
	return api.OK
}

func (m *model) correct(of int, e api.Entry) (int, api.Errno) {
	if why := m.standing(of); why != api.OK {
		return 0, why
	}
	if why := fault(m.h, e); why != api.OK {
		return 0, why
	}
	if e.What != m.entries[of-1].What {
		return 0, api.ErrArg
	}
	if m.unit(e.Unit).Dim != m.unit(m.entries[of-1].Unit).Dim {
		return 0, api.ErrDim
	}
	return m.put(e, of)
}

func (m *model) void(id int) api.Errno {
	if why := m.standing(id); why != api.OK {
		return why
	}
	m.entries[id-1].Void = true
	m.changed()
	return api.OK
}

func (m *model) unit(text string) api.Unit {
	u, _, _ := conv.Unit(m.h, text)
	return u
}

func (m *model) now() []api.Entry {
	return slices.DeleteFunc(slices.Clone(m.entries), func(e api.Entry) bool { return !counts(m.entries, e.Id) })
}

func (m *model) chain(id int) []api.Entry {
	var l []api.Entry
	for ; id != 0; id = m.entries[id-1].Of {
		l = append([]api.Entry{m.entries[id-1]}, l...)
	}
	return l
}

func (m *model) ask(q api.Query) ([]api.Entry, api.Errno) {
	if _, why, _ := conv.Unit(m.h, q.Unit); q.Unit != "" && why != api.OK {
		return nil, why
	}
	var l []api.Entry
	for _, e := range m.now() {
		if q.What != "" && q.What != e.What || q.Tag != "" && !slices.Contains(e.Tags, q.Tag) || e.Day < q.From || e.Day > q.To {
			continue
		}
		if q.Unit != "" {
			from, to := m.unit(e.Unit), m.unit(q.Unit)
			if from.Dim != to.Dim {
				continue
			}
			var why api.Errno
			if e.Value, why = conv.To(m.h, e.Value, e.Unit, q.Unit); why != api.OK {
				return nil, why
			}
			spread := new(big.Rat).Mul(bigOf(e.Spread), bigOf(from.Factor))
			if e.Spread, why = told(spread.Quo(spread, bigOf(to.Factor))); why != api.OK {
				return nil, why
			}
			e.Unit = q.Unit
		}
		l = append(l, e)
	}
	return l, api.OK
}

func (m *model) sum(q api.Query) (api.Meas, api.Errno) {
	if q.Unit == "" {
		return api.Meas{}, api.ErrUnit
	}
	l, why := m.ask(q)
	if why != api.OK {
		return api.Meas{}, why
	}
	value, out := new(big.Rat), api.Meas{}
	for _, e := range l {
		value.Add(value, bigOf(e.Value))
		if e.Spread.Num != "0" {
			out.Sources = append(out.Sources, api.Source{Name: fmt.Sprint("#", e.Id), By: e.Spread})
		}
	}
	if out.Value, why = told(value); why != api.OK {
		return api.Meas{}, why
	}
	if len(out.Sources) > 64 {
		return api.Meas{}, api.ErrSource
	}
	slices.SortFunc(out.Sources, func(a, b api.Source) int { return strings.Compare(a.Name, b.Name) })
	return out, api.OK
}

// check: all that a ledger answers, but of what it is asked by a query, against the model.
func check(t *testing.T, l *ledger.Ledger, m *model) {
	t.Helper()
	if !sameEntries(l.All(), m.entries) {
		t.Errorf("All: %s, not %s", short(l.All()), short(m.entries))
	}
	if !sameEntries(l.Now(), m.now()) {
		t.Errorf("Now: %s, not %s", short(l.Now()), short(m.now()))
	}
	if l.Len() != len(m.entries) || l.Changes() != len(m.views)-1 {
		t.Errorf("Len, Changes: %d, %d, not %d, %d", l.Len(), l.Changes(), len(m.entries), len(m.views)-1)
	}
	for id := -1; id <= len(m.entries)+2; id++ {
		e, why := l.Get(id)
		chain, no := l.Chain(id)
		if id < 1 || id > len(m.entries) {
			if !sameEntry(e, api.Entry{}) || why != api.ErrEntry || len(chain) > 0 || no != api.ErrEntry {
				t.Errorf("Get, Chain of %d: %s, %d, %s, %d", id, short(e), why, short(chain), no)
			}
			continue
		}
		if !sameEntry(e, m.entries[id-1]) || why != api.OK || !sameEntries(chain, m.chain(id)) || no != api.OK {
			t.Errorf("Get, Chain of %d: %s, %d, %s, %d", id, short(e), why, short(chain), no)
		}
	}
}

// checkQuery: what is asked by one.
func checkQuery(t *testing.T, l *ledger.Ledger, m *model, q api.Query) (ask, sum api.Errno) {
	t.Helper()
	want, ask := m.ask(q)
	if got, e := l.Ask(q); !sameEntries(got, want) || e != ask {
		t.Errorf("Ask(%+v) = %s, %d, not %s, %d", q, short(got), e, short(want), ask)
	}
	total, sum := m.sum(q)
	if got, e := l.Sum(q); !sameMeas(got, total) || e != sum {
		t.Errorf("Sum(%+v) = %s, %d, not %s, %d", q, short(got), e, short(total), sum)
	}
	return ask, sum
}

func digits(r *rand.Rand, n int) string {
	b := []byte{byte('1' + r.Intn(9))}
	for len(b) < n {
		b = append(b, byte('0'+r.Intn(10)))
	}
	return string(b)
}

// sample: a number that is right, now and then with as many digits as it may have.
func sample(r *rand.Rand) api.Rat {
	n := pick(r, 1, 1, 2, 2, 3, 5)
	if r.Intn(60) == 0 {
		n = pick(r, 100, 300, 600)
	}
	v, e := rat.New(pick(r, "", "", "-")+digits(r, 1+r.Intn(n)), pick(r, "1", "1", "10", "8", digits(r, 1+r.Intn(n))))
	if e != api.OK {
		panic("no sample")
	}
	return v
}

// wrong: a number that is not right.
func wrong(r *rand.Rand) api.Rat {
	return pick(r, api.Rat{}, api.Rat{Num: "2", Den: "4"}, api.Rat{Num: "-0", Den: "1"}, api.Rat{Num: "1", Den: "0"}, api.Rat{Num: "1" + strings.Repeat("0", 600), Den: "1"}, api.Rat{Num: "0", Den: "2"})
}

func unitText(r *rand.Rand, odd bool) string {
	if r.Intn(30) == 0 {
		return pick(r, "foo", "", "m +", "m + m", "hbig", "0 m", "light", "2 degC", "m^100", "m )")
	}
	if odd {
		return pick(r, "m", "km", "third", "meter", pick(r, "big", "most", "least", "m"), "s", "K", "C", "o", pick(r, "b", "C"), "m / s", "1")
	}
	return pick(r, "m", "km", "mi", "ft", "s", "h", "min", "kg", "lb", "K", "degC", "\u00b0F", "km / h", "m s^-1", "1", "m^2 / m")
}

// grown: an entry of chance, mostly right.
func grown(r *rand.Rand, odd bool) api.Entry {
	e := api.Entry{Id: r.Intn(3), What: pick(r, "length", "length", "time", "x", "~!"), Value: sample(r), Spread: sample(r), Unit: unitText(r, odd), Day: r.Intn(12), Of: r.Intn(3), Void: r.Intn(2) == 0}
	e.Spread.Num = strings.TrimPrefix(e.Spread.Num, "-")
	if r.Intn(3) == 0 {
		e.Spread = rat.Of(0)
	}
	for _, tag := range []string{"a", "b", "dry", "wet"} {
		if r.Intn(3) == 0 {
			e.Tags = append(e.Tags, tag)
		}
	}
	for r.Intn(8) == 0 {
		spoil(r, &e)
	}
	return e
}

func spoil(r *rand.Rand, e *api.Entry) {
	switch r.Intn(9) {
	case 0:
		e.What = pick(r, "", " ", "a b", "a\x7f", "\u00b5", strings.Repeat("x", 41))
	case 1:
		e.Value = wrong(r)
	case 2:
		e.Spread = wrong(r)
	case 3:
		e.Spread = rat.Of(-1)
	case 4:
		e.Day = pick(r, -1, 1000001, -1<<63, 1<<63-1)
	case 5:
		e.Tags = append(e.Tags, pick(r, "", "a b", "\xff", strings.Repeat("t", 41)))
	case 6:
		e.Tags = append(e.Tags, "twice", "x", "twice")
	case 7:
		e.Tags = append(e.Tags, strings.Split("1 2 3 4 5 6 7 8 9", " ")...)
	case 8:
		e.Unit = pick(r, "foo", "", "m +", "m + m", "m^100")
	}
}

func query(r *rand.Rand, odd bool) api.Query {
	q := api.Query{What: pick(r, "", "", "length", "x", "none", "\xff"), Tag: pick(r, "", "", "", "a", "dry", "none"), From: r.Intn(6) - 1, To: pick(r, 3, 8, 12, 1000000, 1<<63-1)}
	if r.Intn(10) == 0 {
		q.From, q.To = pick(r, -1<<63, 5, 1<<63-1), pick(r, -1<<63, 4, 5, 1<<63-1)
	}
	if r.Intn(4) > 0 {
		q.Unit = unitText(r, odd)
	}
	return q
}
