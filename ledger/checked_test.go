package ledger_test

import (
	"math/rand"
	"slices"
	"sync"
	"testing"

	"cubit/api"
	"cubit/ledger"
)

// An entry that was checked comes as by Add; one that can not stand is refused as by Add.
func TestChecked(t *testing.T) {
	r := rand.New(rand.NewSource(26))
	for n, h := range houses(t) {
		one, other := ledger.New(h), ledger.New(h)
		refused := 0
		for range 1500 {
			e := grown(r, n == 1)
			id, why := one.Add(e)
			c, fault := ledger.Check(h, e)
			if fault != why || (c == nil) != (why != api.OK) {
				t.Fatalf("Check of %s: %d, not %d", short(e), fault, why)
			}
			if why != api.OK {
				refused++
				continue
			}
			if got, fault := other.AddChecked(c); got != id || fault != api.OK {
				t.Fatalf("AddChecked of %s: %d, %d", short(e), got, fault)
			}
		}
		if refused < 50 || !sameEntries(one.All(), other.All()) || one.Changes() != other.Changes() {
			t.Errorf("%d refused; %d and %d entries", refused, one.Len(), other.Len())
		}
		for range 200 {
			q := query(r, n == 1)
			a, why := one.Ask(q)
			b, fault := other.Ask(q)
			if !sameEntries(a, b) || why != fault {
				t.Errorf("Ask(%+v)", q)
			}
		}
	}
}

// What no Check of the ledger's house has answered is not taken; nothing of what was checked is kept but by value.
func TestCheckedRefused(t *testing.T) {
	h := ownHouse(t)
	if c, e := ledger.Check(nil, entry("a", "1", "0", "m", 0)); c != nil || e != api.ErrNil {
		t.Error(c, e)
	}
	e := entry("a", "1", "0", "m", 0, "x", "y")
	c, _ := ledger.Check(h, e)
	e.Tags[0] = "changed"
	var none *ledger.Ledger
	if id, e := none.AddChecked(c); id != 0 || e != api.ErrNil {
		t.Error(id, e)
	}
	l := ledger.New(h)
	for _, wrong := range []*ledger.Checked{nil, {}} {
		if id, e := l.AddChecked(wrong); id != 0 || e != api.ErrArg || l.Len() != 0 {
			t.Error(id, e)
		}
	}
	if id, e := ledger.New(oddHouse(t)).AddChecked(c); id != 0 || e != api.ErrArg {
		t.Error(id, e)
	}
	for n := range 4096 {
		if id, e := l.AddChecked(c); id != n+1 || e != api.OK {
			t.Fatal(id, e)
		}
	}
	if id, e := l.AddChecked(c); id != 0 || e != api.ErrFull || l.Changes() != 4096 {
		t.Error(id, e)
	}
	if all := l.All(); !slices.Equal(all[0].Tags, []string{"x", "y"}) || !slices.Equal(all[4095].Tags, []string{"x", "y"}) {
		t.Error(all[0], all[4095])
	}
}

// Many may check at one time, over one house.
func TestCheckTogether(t *testing.T) {
	h := ownHouse(t)
	var wait sync.WaitGroup
	for n := range 16 {
		wait.Add(1)
		go func() {
			defer wait.Done()
			r := rand.New(rand.NewSource(int64(n)))
			for range 50 {
				e := grown(r, false)
				if _, why := ledger.Check(h, e); why != fault(h, e) {
					t.Errorf("Check of %s: %d", short(e), why)
				}
			}
		}()
	}
	wait.Wait()
}
