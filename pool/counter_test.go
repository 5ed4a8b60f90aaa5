package pool_test

import (
	"math"
	"math/rand"
	"slices"
	"sync"
	"testing"

	"cubit/pool"
)

// P28.4.
func TestCounter(t *testing.T) {
	c := pool.NewCounter()
	if c.Value() != 0 || c.Most() != 0 {
		t.Fatal(c.Value(), c.Most())
	}
	for _, step := range []struct{ add, value, most int64 }{
		{-5, -5, 0}, {0, -5, 0}, {5, 0, 0}, {7, 7, 7}, {-9, -2, 7}, {8, 6, 7}, {2, 8, 8}, {math.MaxInt64 - 8, math.MaxInt64, math.MaxInt64}, {1, math.MinInt64, math.MaxInt64}, {math.MinInt64, 0, math.MaxInt64}, {-1, -1, math.MaxInt64},
	} {
		if told := c.Add(step.add); told != step.value || c.Value() != step.value || c.Most() != step.most {
			t.Fatalf("%+v: %d, %d, %d", step, told, c.Value(), c.Most())
		}
	}
	other := pool.NewCounter()
	if other.Value() != 0 || other.Most() != 0 || other.Add(math.MinInt64) != math.MinInt64 || other.Add(-1) != math.MaxInt64 || other.Most() != math.MaxInt64 {
		t.Error(other.Value(), other.Most())
	}
	var none *pool.Counter
	if none.Add(5) != 0 || none.Value() != 0 || none.Most() != 0 {
		t.Error("of nil")
	}
}

// P28.8: n additions of 1 by many tell 1 to n, each once; and whoever has seen a value finds the most no less.
func TestCounterOfMany(t *testing.T) {
	const many, each = 32, 500
	c := pool.NewCounter()
	told := make([][]int64, many)
	var wait sync.WaitGroup
	for n := range many {
		wait.Add(1)
		go func() {
			defer wait.Done()
			for range each {
				told[n] = append(told[n], c.Add(1))
				if seen := c.Value(); c.Most() < seen || seen < told[n][len(told[n])-1] {
					t.Error("the most is behind")
				}
			}
		}()
	}
	wait.Wait()
	all := slices.Concat(told...)
	for _, l := range told {
		if !slices.IsSorted(l) {
			t.Error("not rising")
		}
	}
	slices.Sort(all)
	for i, v := range all {
		if v != int64(i+1) {
			t.Fatalf("the value %d is told, not %d", v, i+1)
		}
	}
	if len(all) != many*each || c.Value() != many*each || c.Most() != many*each {
		t.Error(len(all), c.Value(), c.Most())
	}
}

// Up and down by many at one time: the most is one that was told.
func TestMostOfMany(t *testing.T) {
	for seed := range 20 {
		c := pool.NewCounter()
		most := make([]int64, 16)
		var wait sync.WaitGroup
		for n := range most {
			wait.Add(1)
			go func() {
				defer wait.Done()
				r := rand.New(rand.NewSource(int64(seed*100 + n)))
				for range 200 {
					most[n] = max(most[n], c.Add(r.Int63n(2001)-1000))
				}
			}()
		}
		wait.Wait()
		if c.Most() != slices.Max(most) {
			t.Fatal(c.Most(), most)
		}
	}
}

// P28.4, P28.8.
func TestCount(t *testing.T) {
	for _, c := range []struct {
		l            [][]int64
		value, count int64
	}{
		{nil, 0, 0}, {[][]int64{}, 0, 0}, {[][]int64{nil, {}}, 0, 0}, {[][]int64{{5, -7}, {3}}, 1, 3}, {[][]int64{{math.MaxInt64}, nil, {1, 1}}, math.MinInt64 + 1, 3}, {[][]int64{{math.MinInt64, math.MinInt64}}, 0, 2},
	} {
		if value, count := pool.Count(c.l); value != c.value || count != c.count {
			t.Errorf("Count(%v) = %d, %d", c.l, value, count)
		}
	}
	r := rand.New(rand.NewSource(284))
	for range 300 {
		l := make([][]int64, r.Intn(pick(r, 3, 20, 300)))
		sum, count := int64(0), int64(0)
		for n := range l {
			for range r.Intn(20) {
				x := int64(r.Uint64())
				l[n] = append(l[n], x)
				sum, count = sum+x, count+1
			}
		}
		var was [][]int64
		for _, numbers := range l {
			was = append(was, slices.Clone(numbers))
		}
		if value, n := pool.Count(l); value != sum || n != count {
			t.Fatalf("Count = %d, %d, not %d, %d", value, n, sum, count)
		}
		if !slices.EqualFunc(l, was, slices.Equal[[]int64]) {
			t.Fatal("a list was changed")
		}
	}
	if value, count := pool.Count(slices.Repeat([][]int64{{1}}, 100000)); value != 100000 || count != 100000 {
		t.Error(value, count)
	}
}
