package tally_test

import (
	"math/big"
	"math/rand"
	"runtime"
	"slices"
	"strings"
	"sync"
	"testing"
	"time"

	"cubit/api"
	"cubit/rat"
	"cubit/tally"
)

// single: the calls of one list, and how many numbers each must have.
type single struct {
	name  string
	least int
	call  func(l []api.Rat) answer
	model func(l []*big.Rat) answer
}

func singles() []single {
	return []single{
		{"Sum", 0, func(l []api.Rat) answer { return one(tally.Sum(l...)) }, func(l []*big.Rat) answer { return model(sum(l)) }},
		{"Mean", 1, func(l []api.Rat) answer { return one(tally.Mean(l)) }, func(l []*big.Rat) answer { return model(mean(l)) }},
		{"Median", 1, func(l []api.Rat) answer { return one(tally.Median(l)) }, func(l []*big.Rat) answer { return model(median(l)) }},
		{"Variance", 2, func(l []api.Rat) answer { return one(tally.Variance(l)) }, func(l []*big.Rat) answer { return model(variance(l)) }},
	}
}

// double: the calls of two lists.
type double struct {
	name  string
	least int
	call  func(x, y []api.Rat) answer
	model func(x, y []*big.Rat) answer
}

func doubles() []double {
	return []double{
		{"Weighted", 1, func(x, y []api.Rat) answer { return three(tally.Weighted(x, y)) }, weighted},
		{"Fit", 2, func(x, y []api.Rat) answer { return two(tally.Fit(x, y)) }, fit},
	}
}

// median: the number than which as many are below as are above, by counting alone.
func median(l []*big.Rat) *big.Rat {
	place := func(n int) *big.Rat {
		for _, v := range l {
			below, same := 0, 0
			for _, w := range l {
				switch w.Cmp(v) {
				case -1:
					below++
				case 0:
					same++
				}
			}
			if below <= n && n < below+same {
				return v
			}
		}
		panic("no such place")
	}
	return mean([]*big.Rat{place((len(l) - 1) / 2), place(len(l) / 2)})
}

func variance(l []*big.Rat) *big.Rat {
	away := differences(l, mean(l))
	return over(dot(away, away), whole(len(l)-1))
}

func weighted(l, stds []*big.Rat) answer {
	var weights []*big.Rat
	for _, s := range stds {
		weights = append(weights, over(whole(1), times(s, s)))
	}
	middle := over(dot(weights, l), sum(weights))
	chi := new(big.Rat)
	for i, d := range differences(l, middle) {
		chi = plus(chi, times(weights[i], times(d, d)))
	}
	return model(middle, over(whole(1), sum(weights)), chi)
}

func fit(x, y []*big.Rat) answer {
	away := differences(x, mean(x))
	wide := dot(away, away)
	if wide.Sign() == 0 {
		return answer{make([]api.Rat, 2), api.ErrZero}
	}
	slope := over(dot(away, differences(y, mean(y))), wide)
	return model(slope, minus(mean(y), times(slope, mean(x))))
}

// The chapter's example, and more of its kind.
func TestExample(t *testing.T) {
	for _, c := range []struct {
		call             func(l []api.Rat) (api.Rat, api.Errno)
		name, list, want string
	}{
		{tally.Mean, "Mean", "1 2 4", "7/3"}, {tally.Mean, "Mean", "5", "5"}, {tally.Mean, "Mean", "-1/2 1/2", "0"},
		{tally.Median, "Median", "4 1 2 3", "5/2"}, {tally.Median, "Median", "7", "7"}, {tally.Median, "Median", "9 -9 1/3", "1/3"}, {tally.Median, "Median", "2 1", "3/2"}, {tally.Median, "Median", "1 1 1 5", "1"}, {tally.Median, "Median", "-1 -2 -3 -10", "-5/2"},
		{tally.Variance, "Variance", "1 2 4", "7/3"}, {tally.Variance, "Variance", "3 3 3", "0"}, {tally.Variance, "Variance", "1 2", "1/2"},
		{func(l []api.Rat) (api.Rat, api.Errno) { return tally.Sum(l...) }, "Sum", "1/2 1/3 1/6", "1"}, {func(l []api.Rat) (api.Rat, api.Errno) { return tally.Sum(l...) }, "Sum", "", "0"},
	} {
		check(t, c.name+" of "+c.list, one(c.call(numbers(c.list))), answer{numbers(c.want), api.OK})
	}
	check(t, "Weighted", three(tally.Weighted(numbers("1 3"), numbers("1 2"))), answer{numbers("7/5 4/5 4/5"), api.OK})
	check(t, "Weighted", three(tally.Weighted(numbers("-7/2"), numbers("1/3"))), answer{numbers("-7/2 1/9 0"), api.OK})
	check(t, "Fit", two(tally.Fit(numbers("0 1 2"), numbers("1 3 5"))), answer{numbers("2 1"), api.OK})
	check(t, "Fit", two(tally.Fit(numbers("0 1 2"), numbers("0 1 0"))), answer{numbers("0 1/3"), api.OK})
	check(t, "Fit", two(tally.Fit(numbers("1 2"), numbers("5 5"))), answer{numbers("0 5"), api.OK})
}

// P27.1 to P27.3: against sums of what each is away from the mean, in the library's great numbers.
func TestAgainstModel(t *testing.T) {
	r := rand.New(rand.NewSource(27))
	for i := range 600 {
		n, most := r.Intn(12), pick(r, 1, 2, 4, 20, 60)
		switch {
		case i%60 == 0:
			n, most = 30+r.Intn(300), 3
		case i%6 == 0:
			n, most = r.Intn(5), pick(r, 150, 300, 600)
		}
		x, y := samples(r, n, most), samples(r, n, most)
		for _, c := range singles() {
			if n >= c.least {
				check(t, c.name+" of "+short(x), c.call(x), c.model(bigs(x)))
			}
		}
		for _, c := range doubles() {
			if n >= c.least {
				y := above(y)
				check(t, c.name+" of "+short(x)+short(y), c.call(x, y), c.model(bigs(x), bigs(y)))
			}
		}
	}
}

// Lists are cut into pieces that are added up at one time: of any length none is left out, and none is there twice.
func TestEachLength(t *testing.T) {
	var l []api.Rat
	for n := range 700 {
		check(t, "Sum", one(tally.Sum(l...)), model(whole(n*(n-1)/2)))
		l = append(l, rat.Of(int64(n)))
	}
	for _, n := range []int{1023, 1024, 1025, 4096, 65536, 100003} {
		l := make([]api.Rat, n)
		for i := range l {
			l[i] = api.Rat{Num: "1", Den: "3"}
		}
		check(t, "Sum", one(tally.Sum(l...)), model(big.NewRat(int64(n), 3)))
		check(t, "Mean", one(tally.Mean(l)), answer{numbers("1/3"), api.OK})
		check(t, "Variance", one(tally.Variance(l)), answer{numbers("0"), api.OK})
	}
}

// What is not right is told ahead of all else, at whichever place it stands.
func TestForm(t *testing.T) {
	for _, wrong := range wrongs() {
		for _, l := range [][]api.Rat{{wrong}, {wrong, rat.Of(1)}, {rat.Of(1), wrong}, {rat.Of(1), rat.Of(2), wrong, rat.Of(3)}, append(samples(rand.New(rand.NewSource(1)), 500, 3), wrong)} {
			for _, c := range singles() {
				refuse(t, c.name+" of "+short(l), c.call(l), api.ErrForm)
			}
			for _, other := range [][]api.Rat{nil, {rat.Of(0)}, {rat.Of(-1), rat.Of(0)}, numbers("1 1 1 1"), {wrong}} {
				for _, c := range doubles() {
					refuse(t, c.name+" of "+short(l)+short(other), c.call(l, other), api.ErrForm)
					refuse(t, c.name+" of "+short(other)+short(l), c.call(other, l), api.ErrForm)
				}
			}
		}
	}
}

// Too few, of one list and of two; lists of two lengths are told ahead of that, and of a std that is 0.
func TestFew(t *testing.T) {
	for _, c := range singles() {
		for n := range 3 {
			if got := c.call(numbers("5 7")[:n]); n < c.least && !got.refused(api.ErrFew) || n >= c.least && got.why != api.OK {
				t.Errorf("%s of %d: %v", c.name, n, got)
			}
		}
	}
	for _, c := range doubles() {
		for n := range 3 {
			for m := range 3 {
				got := c.call(numbers("5 7")[:n], numbers("0 -1")[:m])
				switch {
				case n != m:
					refuse(t, c.name, got, api.ErrArg)
				case n < c.least:
					refuse(t, c.name, got, api.ErrFew)
				}
			}
		}
		refuse(t, c.name, c.call(nil, nil), api.ErrFew)
		refuse(t, c.name, c.call([]api.Rat{}, nil), api.ErrFew)
		refuse(t, c.name, c.call(numbers("1 1 1"), numbers("1 1")), api.ErrArg)
	}
}

// P27.2: a std that is 0 is told ahead of one below it, wherever they stand.
func TestStds(t *testing.T) {
	for stds, want := range map[string]api.Errno{"0 1 1": api.ErrZero, "1 1 0": api.ErrZero, "-1 0 1": api.ErrZero, "0 -1 1": api.ErrZero, "-1 1 1": api.ErrBelow, "1 1 -1/3": api.ErrBelow, "-1 -2 -1": api.ErrBelow, "0 0 0": api.ErrZero} {
		refuse(t, "Weighted by "+stds, three(tally.Weighted(numbers("1 2 3"), numbers(stds))), want)
	}
	if _, _, _, e := tally.Weighted(numbers("0 -1 0"), numbers("1 2 3")); e != api.OK {
		t.Error(e)
	}
}

// P27.3: all x the same, whatever y is.
func TestFitOfOneX(t *testing.T) {
	for _, x := range []string{"0 0", "1/3 1/3 1/3", "-5 -5 -5 -5", "1e599 1e599", "1e-599 1e-599"} {
		l := numbers(x)
		for _, y := range []string{"0 0 0 0", "1 2 3 4", "1e599 -1e599 1/7 0"} {
			refuse(t, "Fit of "+x, two(tally.Fit(l, numbers(y)[:len(l)])), api.ErrZero)
		}
	}
	if _, _, e := tally.Fit(numbers("0 0 0 1e-599"), numbers("1 1 1 1")); e != api.OK {
		t.Error(e)
	}
}

// ErrLarge: of results alone, however great the sums on the way; and then there is none of them.
func TestLarge(t *testing.T) {
	nines := strings.Repeat("9", 600)
	for _, c := range []struct{ name, list, want string }{
		{"Sum", nines + " 1", ""}, {"Sum", nines + " 1 -1", nines}, {"Sum", "1e-599 1/17", ""}, {"Sum", "1e-599 -1/7 1/7", "1e-599"}, {"Sum", "9e599 9e599 9e599 -9e599 -9e599 -9e599", "0"},
		{"Mean", nines + " " + nines, nines}, {"Mean", "1e-599 0", "5e-600"}, {"Mean", "1e-599 0 0 0 0 0 0 0 0 0 0 0", ""}, {"Mean", "1e-599 0 0", "1/3e599"}, {"Mean", "9e599 9e599 -9e599", "3e599"},
		{"Median", "0 9e599 -9e599", "0"}, {"Median", nines + " " + nines, nines}, {"Median", "1e-599 0", "5e-600"}, {"Median", "1/7 1e-599", ""}, {"Median", "1/7 1e-599 0", "1e-599"},
		{"Variance", "9e599 9e599 9e599", "0"}, {"Variance", "9e599 0", ""}, {"Variance", "2e300 0", ""}, {"Variance", "1e300 0", "5e599"}, {"Variance", "1e300 -1e300", ""}, {"Variance", "1e299 -1e299", "2e598"}, {"Variance", nines + " " + nines[:599] + "8", "1/2"},
	} {
		n := slices.IndexFunc(singles(), func(s single) bool { return s.name == c.name })
		got := singles()[n].call(bare(c.list))
		if c.want == "" {
			refuse(t, c.name+" of "+c.list, got, api.ErrLarge)
		} else {
			check(t, c.name+" of "+c.list, got, answer{bare(c.want), api.OK})
		}
	}
	for _, c := range []struct{ values, stds, want string }{
		{"5 5", "1e299 1e299", "5 5e597 0"}, {"5 5", "2e300 2e300", ""}, {"5 5", "1e300 1e300", "5 5e599 0"}, {"1e200 0", "1 1", "5e199 1/2 5e399"}, {"2e300 0", "1 1", ""}, {"1e300 0", "1 1", "5e299 1/2 5e599"}, {"1e599 1e599", "1 1", "1e599 1/2 0"}, {"1 1", "1e-300 1e-300", ""}, {"1 1", "1e-299 1e-299", "1 5e-599 0"}, {"1e599 0", "1e599 1e599", ""},
	} {
		got := three(tally.Weighted(bare(c.values), bare(c.stds)))
		if c.want == "" {
			refuse(t, "Weighted of "+c.values, got, api.ErrLarge)
		} else {
			check(t, "Weighted of "+c.values, got, answer{bare(c.want), api.OK})
		}
	}
	for _, c := range []struct{ x, y, want string }{
		{"0 1e599", "0 1e599", "1 0"}, {"1e599 2e599", "1 1", "0 1"}, {"0 1e-599", "0 1e599", ""}, {"1e599 1000000e593 2e599", "0 0 1", "1e-599 -1/3"}, {"1e-599 2e-599", "0 1", "1e599 -1"}, {"0 1", "1e599 9e599", "8e599 1e599"}, {"1 2", "9e599 0", ""}, {"-1 1", "9e599 -9e599", "-9e599 0"},
	} {
		got := two(tally.Fit(bare(c.x), bare(c.y)))
		want := fit(bigs(bare(c.x)), bigs(bare(c.y)))
		check(t, "Fit of "+c.x, got, want)
		if (c.want == "") != (got.why == api.ErrLarge) {
			t.Errorf("Fit of %s, %s: %s", c.x, c.y, short(got))
		}
	}
}

// bare: numbers, those of 600 digits too, whose powers of ten rat.Parse would find too long.
func bare(text string) []api.Rat {
	var l []api.Rat
	for _, word := range strings.Fields(text) {
		num, den, cut := strings.Cut(word, "/")
		if !cut {
			den = "1"
		}
		v, ok := new(big.Rat).SetString(num)
		w, okToo := new(big.Rat).SetString(den)
		if !ok || !okToo {
			panic("no number: " + word)
		}
		v = over(v, w)
		l = append(l, api.Rat{Num: v.Num().String(), Den: v.Denom().String()})
	}
	return l
}

// P27.5: the order of the list plays no part; moved values, and values so many times as great.
func TestLaws(t *testing.T) {
	r := rand.New(rand.NewSource(275))
	for range 300 {
		n := 2 + r.Intn(60)
		x, y := samples(r, n, 4), above(samples(r, n, 4))
		order := r.Perm(n)
		mixedX, mixedY := mixed(x, order), mixed(y, order)
		for _, c := range singles() {
			check(t, c.name+" of "+short(x), c.call(mixedX), c.call(x))
		}
		for _, c := range doubles() {
			check(t, c.name+" of "+short(x), c.call(mixedX, mixedY), c.call(x, y))
		}
		by, factor := sample(r, 4), sample(r, 4)
		moved, grown := slices.Clone(x), slices.Clone(x)
		for i := range x {
			moved[i], _ = rat.Add(x[i], by)
			grown[i], _ = rat.Mul(x[i], factor)
		}
		square, _ := rat.Mul(factor, factor)
		for i, c := range singles()[1:] {
			was := c.call(x).numbers[0]
			more, times := rat.Of(0), square
			if i < 2 { // Mean and Median
				more, times = by, factor
			}
			check(t, c.name+" moved", c.call(moved), one(rat.Add(was, more)))
			check(t, c.name+" grown", c.call(grown), one(rat.Mul(was, times)))
		}
	}
}

func mixed(l []api.Rat, order []int) []api.Rat {
	var out []api.Rat
	for _, n := range order {
		out = append(out, l[n])
	}
	return out
}

// P27.6: from no other number than the mean is the sum of squares as small; what each is away from it is 0 together.
func TestMeanIsLeast(t *testing.T) {
	r := rand.New(rand.NewSource(276))
	for range 200 {
		x := samples(r, 1+r.Intn(20), 5)
		m, _ := tally.Mean(x)
		away := differences(bigs(x), bigOf(m))
		if sum(away).Sign() != 0 {
			t.Fatalf("Mean of %v", x)
		}
		for range 5 {
			other := plus(bigOf(m), bigOf(sample(r, 3)))
			from := differences(bigs(x), other)
			if order := dot(from, from).Cmp(dot(away, away)); order < 0 || order == 0 && other.Cmp(bigOf(m)) != 0 {
				t.Fatalf("Mean of %v", x)
			}
		}
	}
}

// P27.7: stds alike; points on a line; what is away from a fitted line.
func TestLines(t *testing.T) {
	r := rand.New(rand.NewSource(277))
	for range 200 {
		n := 2 + r.Intn(20)
		x, y, std := samples(r, n, 4), samples(r, n, 4), above(samples(r, 1, 4))[0]
		m, v, _, e := tally.Weighted(x, slices.Repeat([]api.Rat{std}, n))
		want, _ := told(mean(bigs(x)), over(times(bigOf(std), bigOf(std)), whole(n)))
		if e != api.OK || m != want[0] || v != want[1] {
			t.Fatalf("Weighted of %v with %v: %v, %v, %d", x, std, m, v, e)
		}
		slope, at, e := tally.Fit(x, y)
		if e == api.ErrZero {
			continue
		}
		var away, on []*big.Rat
		for i := range x {
			line := plus(times(bigOf(slope), bigOf(x[i])), bigOf(at))
			on, away = append(on, line), append(away, minus(bigOf(y[i]), line))
		}
		if sum(away).Sign() != 0 || dot(away, bigs(x)).Sign() != 0 {
			t.Fatalf("Fit of %v, %v: %v, %v", x, y, slope, at)
		}
		points, _ := told(on...)
		check(t, "Fit of a line", two(tally.Fit(x, points)), two(slope, at, api.OK))
	}
}

// Rule 5: what is handed in stays, and what lies behind it is not read.
func TestStays(t *testing.T) {
	room := numbers("4 1 3 2 9 7")
	room[5] = api.Rat{Num: "x"}
	was := slices.Clone(room)
	stds := numbers("1 2 3 4")
	for _, c := range singles() {
		c.call(room[:4])
	}
	for _, c := range doubles() {
		c.call(room[:4], stds)
	}
	if !slices.Equal(room, was) || !slices.Equal(stds, numbers("1 2 3 4")) {
		t.Error(room, stds)
	}
}

// Rule 6, and the language's: many that ask at one time are told the same, and no goroutine is left behind.
func TestTogether(t *testing.T) {
	r := rand.New(rand.NewSource(6))
	x, y := samples(r, 400, 6), above(samples(r, 400, 6))
	was := runtime.NumGoroutine()
	var wait sync.WaitGroup
	for _, c := range singles() {
		want := c.call(x)
		for range 8 {
			wait.Add(1)
			go func() {
				defer wait.Done()
				if !c.call(x).is(want) {
					t.Errorf("%s is told otherwise", c.name)
				}
			}()
		}
	}
	for _, c := range doubles() {
		want := c.call(x, y)
		for range 8 {
			wait.Add(1)
			go func() {
				defer wait.Done()
				if !c.call(x, y).is(want) {
					t.Errorf("%s is told otherwise", c.name)
				}
			}()
		}
	}
	wait.Wait()
	for range 100 {
		if runtime.NumGoroutine() <= was {
			return
		}
		time.Sleep(10 * time.Millisecond)
	}
	t.Errorf("%d goroutines, not %d", runtime.NumGoroutine(), was)
}
