package pool_test

import (
	"fmt"
	"math"
	"math/rand"
	"runtime"
	"slices"
	"strings"
	"testing"
	"time"

	"cubit/api"
	"cubit/decl"
	"cubit/house"
	"cubit/ledger"
	"cubit/rat"
)

// short: a thing as text, but not all of it.
func short(v any) string { return fmt.Sprintf("%.300s", fmt.Sprintf("%+v", v)) }

func pick[T any](r *rand.Rand, l ...T) T { return l[r.Intn(len(l))] }

// crews: how many workers are asked for.
func crews() []int {
	return []int{1, 2, 3, 7, 16, 64, 65, 1000, math.MaxInt, 0, -1, math.MinInt}
}

func ownHouse(t testing.TB) *house.House {
	t.Helper()
	h, e := house.Own()
	if e != api.OK {
		t.Fatal(e)
	}
	return h
}

// oddities: factors at the bounds, and scales.
const oddities = `base metre m L 1 si
base second s T 1 none
base kelvin K H 1 none
prefix kilo k 1000 si
unit big big 1e300 si m
unit most most 1e599 none m
unit third third 1/3 none m
scale celsius C 1 5463/20 K
scale back b 1e300 -9e599 K
`

func oddHouse(t testing.TB) *house.House {
	t.Helper()
	l, e, at := decl.Parse(oddities)
	if e != api.OK {
		t.Fatal(e, at)
	}
	h, e, at := house.Build(l)
	if e != api.OK {
		t.Fatal(e, at)
	}
	return h
}

// number: of a text as rat reads it.
func number(text string) api.Rat {
	v, e, _ := rat.Parse(text)
	if e != api.OK {
		panic("no number: " + text)
	}
	return v
}

func digits(r *rand.Rand, n int) string {
	b := []byte{byte('1' + r.Intn(9))}
	for len(b) < n {
		b = append(b, byte('0'+r.Intn(10)))
	}
	return string(b)
}

// sample: a number that is right, now and then with as many digits as it may have.
func sample(r *rand.Rand) api.Rat {
	n := pick(r, 1, 1, 2, 3, 5)
	if r.Intn(40) == 0 {
		n = pick(r, 100, 600)
	}
	v, e := rat.New(pick(r, "", "", "-")+digits(r, 1+r.Intn(n)), pick(r, "1", "1", "10", digits(r, 1+r.Intn(n))))
	if e != api.OK {
		panic("no sample")
	}
	return v
}

// wrong: a number that is not right.
func wrong(r *rand.Rand) api.Rat {
	return pick(r, api.Rat{}, api.Rat{Num: "2", Den: "4"}, api.Rat{Num: "-0", Den: "1"}, api.Rat{Num: "1", Den: "0"}, api.Rat{Num: "1" + strings.Repeat("0", 600), Den: "1"})
}

// grown: an entry of chance, mostly right.
func grown(r *rand.Rand) api.Entry {
	e := api.Entry{Id: r.Intn(3), What: pick(r, "length", "time", "x"), Value: sample(r), Spread: sample(r), Unit: pick(r, "m", "km", "s", "K", "m / s", "1", "m^2 / m"), Day: r.Intn(12), Of: r.Intn(3), Void: r.Intn(2) == 0}
	e.Spread.Num = strings.TrimPrefix(e.Spread.Num, "-")
	for _, tag := range []string{"a", "b", "dry"} {
		if r.Intn(3) == 0 {
			e.Tags = append(e.Tags, tag)
		}
	}
	if r.Intn(4) == 0 {
		spoil(r, &e)
	}
	return e
}

func spoil(r *rand.Rand, e *api.Entry) {
	switch r.Intn(7) {
	case 0:
		e.What = pick(r, "", " ", strings.Repeat("x", 41))
	case 1:
		e.Value = wrong(r)
	case 2:
		e.Spread = pick(r, wrong(r), rat.Of(-1))
	case 3:
		e.Day = pick(r, -1, 1000001, math.MinInt)
	case 4:
		e.Tags = append(e.Tags, pick(r, "", "a b", "\xff"))
	case 5:
		e.Tags = pick(r, []string{"twice", "twice"}, strings.Split("1 2 3 4 5 6 7 8 9", " "))
	case 6:
		e.Unit = pick(r, "foo", "", "m +", "m + m", "m^100")
	}
}

func grownBatches(r *rand.Rand, batches, entries int) [][]api.Entry {
	l := make([][]api.Entry, r.Intn(batches+1))
	for n := range l {
		for range r.Intn(entries + 1) {
			l[n] = append(l[n], grown(r))
		}
	}
	return l
}

func copied(batches [][]api.Entry) [][]api.Entry {
	l := make([][]api.Entry, len(batches))
	for n, batch := range batches {
		for _, e := range batch {
			e.Tags = slices.Clone(e.Tags)
			l[n] = append(l[n], e)
		}
	}
	return l
}

func sameEntry(a, b api.Entry) bool {
	return a.Id == b.Id && a.What == b.What && a.Value == b.Value && a.Spread == b.Spread && a.Unit == b.Unit && a.Day == b.Day && slices.Equal(a.Tags, b.Tags) && a.Of == b.Of && a.Void == b.Void
}

func sameEntries(a, b []api.Entry) bool { return slices.EqualFunc(a, b, sameEntry) }

func sameMeas(a, b api.Meas) bool { return a.Value == b.Value && slices.Equal(a.Sources, b.Sources) }

// alone: what one makes of all entries, one after another.
func alone(h *house.House, batches [][]api.Entry) (*ledger.Ledger, []api.Taken) {
	l := ledger.New(h)
	var taken []api.Taken
	for n, batch := range batches {
		for at, e := range batch {
			id, why := l.Add(e)
			taken = append(taken, api.Taken{Batch: n, At: at, Id: id, Err: why})
		}
	}
	return l, taken
}

// sameLedger: do two answer the same?
func sameLedger(t *testing.T, a, b *ledger.Ledger) bool {
	t.Helper()
	if a.Len() != b.Len() || a.Changes() != b.Changes() || !sameEntries(a.All(), b.All()) || !sameEntries(a.Now(), b.Now()) {
		return false
	}
	for _, q := range []api.Query{{To: 1000000}, {What: "length", To: 5, Unit: "km"}, {Tag: "a", From: 3, To: 9, Unit: "s"}, {What: "x", To: 1000000, Unit: "m"}, {To: 9, Unit: "foo"}} {
		x, why := a.Ask(q)
		y, too := b.Ask(q)
		sum, no := a.Sum(q)
		other, neither := b.Sum(q)
		if !sameEntries(x, y) || why != too || !sameMeas(sum, other) || no != neither {
			return false
		}
	}
	return true
}

// noneLeft: have all goroutines ended that a call has begun? (One that has just done its last step may still be counted for a moment.)
func noneLeft(t *testing.T, was int) {
	t.Helper()
	for range 200 {
		if runtime.NumGoroutine() <= was {
			return
		}
		time.Sleep(5 * time.Millisecond)
	}
	t.Errorf("%d goroutines, not %d", runtime.NumGoroutine(), was)
}
