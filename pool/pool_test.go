package pool_test

import (
	"math"
	"math/rand"
	"runtime"
	"slices"
	"sync"
	"testing"

	"cubit/api"
	"cubit/conv"
	"cubit/house"
	"cubit/ledger"
	"cubit/pool"
	"cubit/rat"
)

func entry(what, unit string) api.Entry {
	return api.Entry{What: what, Value: rat.Of(5), Spread: rat.Of(0), Unit: unit}
}

// The chapter's first example.
func TestRecord(t *testing.T) {
	h := ownHouse(t)
	batches := [][]api.Entry{{entry("length", "km"), entry("length", "foo")}, {entry("time", "s")}}
	for _, workers := range crews() {
		l, taken, e := pool.Record(h, batches, workers)
		if want := []api.Taken{{Batch: 0, At: 0, Id: 1}, {Batch: 0, At: 1, Err: api.ErrUnit}, {Batch: 1, At: 0, Id: 2}}; !slices.Equal(taken, want) || e != api.OK {
			t.Fatal(workers, taken, e)
		}
		first, second := entry("length", "km"), entry("time", "s")
		first.Id, second.Id = 1, 2
		if !sameEntries(l.All(), []api.Entry{first, second}) {
			t.Fatal(workers, l.All())
		}
	}
}

// P28.5, P8: any number of workers makes the ledger that one alone makes, and tells what one is told.
func TestRecordIsOne(t *testing.T) {
	r := rand.New(rand.NewSource(285))
	for i := range 150 {
		h := pick(r, ownHouse, oddHouse)(t)
		batches := grownBatches(r, pick(r, 1, 5, 40), pick(r, 1, 8, 60))
		was := copied(batches)
		want, told := alone(h, batches)
		for _, workers := range []int{1, 2 + i%63, pick(r, crews()...)} {
			l, taken, e := pool.Record(h, batches, workers)
			if e != api.OK || !slices.Equal(taken, told) {
				t.Fatalf("%d workers: %s, %d, not %s", workers, short(taken), e, short(told))
			}
			if !sameLedger(t, l, want) {
				t.Fatalf("%d workers: %s, not %s", workers, short(l.All()), short(want.All()))
			}
		}
		for n := range batches {
			if !sameEntries(batches[n], was[n]) {
				t.Fatal("a batch was changed")
			}
		}
	}
}

// P28.1: the house goes ahead of the number of batches; at the bound, and beyond it; batches without entries.
func TestRecordRefused(t *testing.T) {
	h := ownHouse(t)
	for _, workers := range crews() {
		for n, want := range map[int]api.Errno{0: api.OK, 1: api.OK, 255: api.OK, 256: api.OK, 257: api.ErrSize, 1000: api.ErrSize} {
			batches := make([][]api.Entry, n)
			if n > 0 {
				batches[n-1] = []api.Entry{entry("length", "km")}
			}
			l, taken, e := pool.Record(h, batches, workers)
			if e != want || (l == nil) != (want != api.OK) {
				t.Errorf("%d batches, %d workers: %v, %d", n, workers, l, e)
			}
			if n > 0 && want == api.OK && !slices.Equal(taken, []api.Taken{{Batch: n - 1, Id: 1}}) || (n == 0 || want != api.OK) && len(taken) > 0 {
				t.Errorf("%d batches, %d workers: %v", n, workers, taken)
			}
			if l, taken, e := pool.Record(nil, batches, workers); l != nil || len(taken) > 0 || e != api.ErrNil {
				t.Errorf("no house: %v, %v, %d", l, taken, e)
			}
		}
		if l, taken, e := pool.Record(h, nil, workers); l == nil || l.Len() != 0 || len(taken) > 0 || e != api.OK {
			t.Errorf("no batches: %v, %v, %d", l, taken, e)
		}
	}
}

// A ledger that is full takes no more, but goes on telling what else is wrong.
func TestRecordFull(t *testing.T) {
	r := rand.New(rand.NewSource(281))
	h := ownHouse(t)
	batches := make([][]api.Entry, 9)
	for n := range batches {
		for i := range 600 {
			e := entry("length", "km")
			if i%50 == n {
				spoil(r, &e)
			}
			batches[n] = append(batches[n], e)
		}
	}
	want, told := alone(h, batches)
	for _, workers := range []int{1, 4, 9, 64} {
		l, taken, e := pool.Record(h, batches, workers)
		if e != api.OK || !slices.Equal(taken, told) || !sameEntries(l.All(), want.All()) || l.Len() != api.MaxEntries {
			t.Fatalf("%d workers: %d entries, %d", workers, l.Len(), e)
		}
		isFull := func(k api.Taken) bool { return k.Err == api.ErrFull && k.Id == 0 }
		if !slices.ContainsFunc(taken, isFull) {
			t.Fatal("never full")
		}
	}
}

// One batch may have more entries than a ledger.
func TestRecordLongBatch(t *testing.T) {
	h := ownHouse(t)
	batches := [][]api.Entry{{entry("length", "km")}, slices.Repeat([]api.Entry{entry("length", "m")}, 6000), {entry("length", "mi"), entry("length", "foo")}}
	for _, workers := range []int{1, 2, 3} {
		l, taken, e := pool.Record(h, batches, workers)
		if e != api.OK || l.Len() != 4096 || len(taken) != 6003 || taken[4095] != (api.Taken{Batch: 1, At: 4094, Id: 4096}) || taken[4096] != (api.Taken{Batch: 1, At: 4095, Err: api.ErrFull}) || taken[6002] != (api.Taken{Batch: 2, At: 1, Err: api.ErrUnit}) {
			t.Fatal(l.Len(), len(taken), e)
		}
	}
}

// The ledger is one like any other, over that house; it keeps nothing of the batches, and no two share anything.
func TestRecordStandsAlone(t *testing.T) {
	h := oddHouse(t)
	first := entry("length", "third")
	first.Tags = []string{"a", "b"}
	batches := [][]api.Entry{{first}, {entry("length", "m")}}
	l, taken, _ := pool.Record(h, batches, 2)
	other, _, _ := pool.Record(h, batches, 2)
	batches[0][0].Tags[0], batches[1][0].What = "changed", "changed"
	taken[0].Id = 99
	if e, _ := l.Get(1); !slices.Equal(e.Tags, []string{"a", "b"}) {
		t.Error(e)
	}
	if e, _ := l.Get(2); e.What != "length" {
		t.Error(e)
	}
	if id, e := l.Correct(1, entry("length", "big")); id != 3 || e != api.OK {
		t.Error(id, e)
	}
	if id, e := l.Add(entry("time", "h")); id != 0 || e != api.ErrUnit {
		t.Error(id, e)
	}
	if l.Void(2) != api.OK || l.Changes() != 4 || other.Changes() != 2 || len(other.Now()) != 2 {
		t.Error(l.Changes(), other.Now())
	}
	if old, e := l.Back(1); e != api.OK || !sameEntries(old.All(), other.All()[:1]) {
		t.Error(e)
	}
}

// P28.2, P28.6: what conv.To answers of each, whatever the workers; or the first one's error.
func TestConvert(t *testing.T) {
	r := rand.New(rand.NewSource(282))
	own, odd := ownHouse(t), oddHouse(t)
	units := map[*house.House][]string{
		own: {"m", "km", "mi", "s", "K", "degC", "\u00b0F", "km / h", "m s^-1", "1", "foo", "", "m +", "m + m", "m^100", "light"},
		odd: {"m", "km", "third", "big", "most", "K", "C", "b", "s", "m / s", "foo", "m )"},
	}
	faults := map[api.Errno]int{}
	for range 2500 {
		h := pick(r, own, odd)
		from, to := pick(r, units[h]...), pick(r, units[h]...)
		l := make([]api.Rat, pick(r, 1, 2, 5, 63, 64, 65, 200))
		for i := range l {
			l[i] = sample(r)
		}
		for r.Intn(3) == 0 {
			l[r.Intn(len(l))] = wrong(r)
		}
		was := slices.Clone(l)
		var want []api.Rat
		fault, place := api.OK, 0
		for i, x := range l {
			y, e := conv.To(h, x, from, to)
			if e != api.OK {
				want, fault, place = nil, e, i
				break
			}
			want = append(want, y)
		}
		faults[fault]++
		workers := pick(r, crews()...)
		got, e, at := pool.Convert(h, l, from, to, workers)
		if !slices.Equal(got, want) || e != fault || at != place {
			t.Fatalf("%s from %q to %q by %d: %s, %d, %d, not %s, %d, %d", short(l), from, to, workers, short(got), e, at, short(want), fault, place)
		}
		if !slices.Equal(l, was) {
			t.Fatal("the list was changed")
		}
	}
	for _, e := range []api.Errno{api.OK, api.ErrForm, api.ErrUnit, api.ErrDim, api.ErrLarge, api.ErrSyntax} {
		if faults[e] < 10 {
			t.Errorf("error %d: %d times", e, faults[e])
		}
	}
}

// The chapter's second example; the edges of P28.2.
func TestConvertEdges(t *testing.T) {
	h := ownHouse(t)
	for _, workers := range crews() {
		if l, e, at := pool.Convert(h, []api.Rat{rat.Of(1), rat.Of(2)}, "km", "m", workers); !slices.Equal(l, []api.Rat{rat.Of(1000), rat.Of(2000)}) || e != api.OK || at != 0 {
			t.Error(workers, l, e, at)
		}
		for _, l := range [][]api.Rat{nil, {}} {
			if l, e, at := pool.Convert(h, l, "foo", "m +", workers); len(l) > 0 || e != api.OK || at != 0 {
				t.Error(workers, l, e, at)
			}
			if l, e, at := pool.Convert(nil, l, "foo", "m +", workers); len(l) > 0 || e != api.ErrNil || at != 0 {
				t.Error(workers, l, e, at)
			}
		}
		for _, c := range []struct {
			l        []api.Rat
			from, to string
			want     api.Errno
			at       int
		}{
			{[]api.Rat{rat.Of(1), {}}, "km", "m", api.ErrForm, 1}, {[]api.Rat{{}, rat.Of(1)}, "foo", "m", api.ErrForm, 0}, {[]api.Rat{rat.Of(1), {}}, "foo", "m", api.ErrUnit, 0}, {[]api.Rat{rat.Of(1)}, "m", "s", api.ErrDim, 0}, {[]api.Rat{rat.Of(1), number("1e599"), {}}, "km", "m", api.ErrLarge, 1}, {[]api.Rat{rat.Of(1), {}, number("1e599")}, "km", "m", api.ErrForm, 1},
		} {
			if l, e, at := pool.Convert(h, c.l, c.from, c.to, workers); len(l) > 0 || e != c.want || at != c.at {
				t.Error(workers, c, l, e, at)
			}
		}
		if l, e, at := pool.Convert(nil, []api.Rat{{}}, "km", "m", workers); len(l) > 0 || e != api.ErrNil || at != 0 {
			t.Error(workers, l, e, at)
		}
	}
}

// A long list: every number at its own place; of several faults the first one.
func TestConvertLong(t *testing.T) {
	h := ownHouse(t)
	l := make([]api.Rat, 20001)
	for i := range l {
		l[i] = rat.Of(int64(i))
	}
	for _, workers := range []int{1, 8, 64} {
		got, e, _ := pool.Convert(h, l, "km", "m", workers)
		if e != api.OK || len(got) != len(l) {
			t.Fatal(len(got), e)
		}
		for i := range got {
			if got[i] != rat.Of(1000*int64(i)) {
				t.Fatal(i, got[i])
			}
		}
	}
	l[20000], l[17000], l[9999] = api.Rat{}, number("1e599"), api.Rat{Num: "2", Den: "2"}
	for _, c := range []struct {
		n  int
		e  api.Errno
		at int
	}{{9999, api.ErrForm, 9999}, {17000, api.ErrLarge, 17000}, {20000, api.ErrForm, 20000}} {
		if got, e, at := pool.Convert(h, l, "km", "m", 64); len(got) > 0 || e != c.e || at != c.at {
			t.Error(len(got), e, at)
		}
		l[c.n] = rat.Of(1)
	}
}

// P28.3, P28.7.
func TestHouses(t *testing.T) {
	for _, n := range []int{1, 2, 3, 17, 63, 64} {
		if got, e := pool.Houses(n); got != n || e != api.OK {
			t.Errorf("Houses(%d) = %d, %d", n, got, e)
		}
	}
	for _, n := range []int{0, -1, 65, 1000, math.MaxInt, math.MinInt} {
		if got, e := pool.Houses(n); got != 0 || e != api.ErrArg {
			t.Errorf("Houses(%d) = %d, %d", n, got, e)
		}
	}
}

// All goroutines have ended when a call answers; and calls at one time do not disturb one another.
func TestEnded(t *testing.T) {
	h := ownHouse(t)
	r := rand.New(rand.NewSource(288))
	batches := grownBatches(r, 40, 20)
	_, told := alone(h, batches)
	was := runtime.NumGoroutine()
	var wait sync.WaitGroup
	for n := range 12 {
		wait.Add(1)
		go func() {
			defer wait.Done()
			if l, taken, e := pool.Record(h, batches, 1+5*n); e != api.OK || !slices.Equal(taken, told) || l.Len() == 0 {
				t.Errorf("%d: %s, %d", n, short(taken), e)
			}
			if l, e, _ := pool.Convert(h, slices.Repeat([]api.Rat{rat.Of(1)}, 500), "km", "m", 1+5*n); len(l) != 500 || e != api.OK {
				t.Errorf("%d: %d, %d", n, len(l), e)
			}
			if got, e := pool.Houses(1 + n); got != 1+n || e != api.OK {
				t.Errorf("%d: %d, %d", n, got, e)
			}
			if value, count := pool.Count(slices.Repeat([][]int64{{1, 2, 3}}, 100)); value != 600 || count != 300 {
				t.Errorf("%d: %d, %d", n, value, count)
			}
		}()
	}
	wait.Wait()
	noneLeft(t, was)
	pool.Record(h, slices.Repeat([][]api.Entry{{}}, 257), 9)
	pool.Convert(h, []api.Rat{{}, {}}, "km", "m", 9)
	noneLeft(t, was)
}

// P9, as far as it speaks of what Record makes: each old view is the one that Add alone has made.
func TestOldViews(t *testing.T) {
	h := ownHouse(t)
	batches := grownBatches(rand.New(rand.NewSource(9)), 30, 10)
	l, taken, _ := pool.Record(h, batches, 8)
	made := ledger.New(h)
	for _, k := range taken {
		if k.Err != api.OK {
			continue
		}
		if id, e := made.Add(batches[k.Batch][k.At]); id != k.Id || e != api.OK {
			t.Fatal(id, e)
		}
		if old, e := l.Back(made.Changes()); e != api.OK || !sameEntries(old.All(), made.All()) {
			t.Fatal(made.Changes(), e)
		}
	}
	if made.Len() == 0 || made.Len() != l.Len() {
		t.Error(made.Len(), l.Len())
	}
}
