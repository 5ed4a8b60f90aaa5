package tally_test

import (
	"math"
	"math/rand"
	"slices"
	"testing"

	"cubit/api"
	"cubit/flo"
	"cubit/tally"
)

func same(f, g float64) bool {
	return math.Float64bits(f) == math.Float64bits(g) || math.IsNaN(f) && math.IsNaN(g)
}

// deviation: by the chapter's words, step by step.
func deviation(l []float64) float64 {
	m := flo.Kept(l...) / float64(len(l))
	s, c := 0.0, 0.0
	for _, x := range l {
		d := x - m
		p := float64(d * d)
		t := s + p
		if math.Abs(s) >= math.Abs(p) {
			c = c + ((s - t) + p)
		} else {
			c = c + ((p - t) + s)
		}
		s = t
	}
	return math.Sqrt((s + c) / float64(len(l)-1))
}

func checkFloats(t *testing.T, l []float64) {
	t.Helper()
	was := slices.Clone(l)
	if f, e := tally.MeanFloat(l); len(l) > 0 && (e != api.OK || !same(f, flo.Kept(l...)/float64(len(l)))) {
		t.Errorf("MeanFloat(%s) = %v, %d", short(l), f, e)
	}
	if f, e := tally.DevFloat(l); len(l) > 1 && (e != api.OK || !same(f, deviation(l))) {
		t.Errorf("DevFloat(%s) = %v, %d, not %v", short(l), f, e, deviation(l))
	}
	if !slices.EqualFunc(l, was, same) {
		t.Errorf("%s was changed", short(was))
	}
}

// P27.4.
func TestFloats(t *testing.T) {
	for _, c := range []struct {
		l         []float64
		mean, dev float64
	}{
		{[]float64{0.1, 0.2, 0.3}, 0.19999999999999998, 0.09999999999999999}, {[]float64{1, 2, 4}, 7.0 / 3, math.Sqrt(7.0 / 3)}, {[]float64{5, 5}, 5, 0}, {[]float64{1e16, 1, -1e16}, 1.0 / 3, 1e16}, {[]float64{-1, 1}, 0, math.Sqrt2}, {[]float64{math.Copysign(0, -1), math.Copysign(0, -1)}, 0, 0}, {[]float64{1e200, -1e200}, 0, math.Inf(1)}, {[]float64{5e-324, 5e-324}, 5e-324, 0},
	} {
		f, e := tally.MeanFloat(c.l)
		if !same(f, c.mean) || e != api.OK {
			t.Errorf("MeanFloat(%v) = %v, %d", c.l, f, e)
		}
		g, e := tally.DevFloat(c.l)
		if math.Abs(g-c.dev) > 1e-15*c.dev || e != api.OK {
			t.Errorf("DevFloat(%v) = %v, %d", c.l, g, e)
		}
		checkFloats(t, c.l)
	}
	r := rand.New(rand.NewSource(274))
	for range 3000 {
		l := make([]float64, r.Intn(30))
		for i := range l {
			l[i] = (r.Float64() - 0.5) * math.Ldexp(1, r.Intn(pick(r, 1, 4, 60, 500)))
			if r.Intn(200) == 0 {
				l[i] = math.Float64frombits(r.Uint64())
			}
		}
		checkFloats(t, l)
	}
	for _, odd := range []float64{math.NaN(), math.Inf(1), math.Inf(-1), math.MaxFloat64, -math.MaxFloat64, 5e-324, math.Copysign(0, -1)} {
		checkFloats(t, []float64{odd})
		checkFloats(t, []float64{odd, odd})
		checkFloats(t, []float64{1, odd, math.Inf(-1), 3})
	}
}

// P27.4: ErrSize goes ahead; ErrFew.
func TestFloatsRefused(t *testing.T) {
	l := make([]float64, 65537)
	for i := range l {
		l[i] = float64(i % 7)
	}
	for _, c := range []struct {
		n         int
		mean, dev api.Errno
	}{{0, api.ErrFew, api.ErrFew}, {1, api.OK, api.ErrFew}, {2, api.OK, api.OK}, {65536, api.OK, api.OK}, {65537, api.ErrSize, api.ErrSize}} {
		f, e := tally.MeanFloat(l[:c.n])
		if e != c.mean || e != api.OK && !same(f, 0) {
			t.Errorf("MeanFloat of %d: %v, %d", c.n, f, e)
		}
		f, e = tally.DevFloat(l[:c.n])
		if e != c.dev || e != api.OK && !same(f, 0) {
			t.Errorf("DevFloat of %d: %v, %d", c.n, f, e)
		}
	}
	checkFloats(t, l[:65536])
	if _, e := tally.MeanFloat(nil); e != api.ErrFew {
		t.Error(e)
	}
	if _, e := tally.DevFloat(nil); e != api.ErrFew {
		t.Error(e)
	}
}
