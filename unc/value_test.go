package unc_test

import (
	"math/rand"
	"testing"

	"cubit/api"
	"cubit/rat"
	"cubit/unc"
)

func readValue(t *testing.T, m api.Meas) unc.Value {
	t.Helper()
	x, right := unc.Read(m)
	if !right {
		t.Fatal("not right:", m)
	}
	return x
}

func frac(s string) rat.Frac {
	f, right := rat.Read(num(s))
	if !right {
		panic("no number: " + s)
	}
	return f
}

// What is read is told as it was; what is not right is not read.
func TestReadAndTell(t *testing.T) {
	r := rand.New(rand.NewSource(57))
	for range 500 {
		m := sample(r, 6, 30)
		x := readValue(t, m)
		got, e := x.Tell()
		checkMeas(t, "Tell", got, e, m, api.OK)
		if x.IsSure() != (len(m.Sources) == 0) {
			t.Errorf("IsSure of %v", m)
		}
		if at, e := x.At().Tell(); at != m.Value || e != api.OK {
			t.Errorf("At of %v: %v", m, at)
		}
	}
	for _, w := range wrongs() {
		if _, right := unc.Read(w); right {
			t.Errorf("%v is read", w)
		}
	}
	m, e := unc.Sure(frac("-2/3")).Tell()
	checkMeas(t, "Sure", m, e, meas("-2/3"), api.OK)
}

// On the way there is no bound: neither on digits nor on sources.
func TestNoBoundOnTheWay(t *testing.T) {
	a, b := readValue(t, many("a", api.MaxSources)), readValue(t, many("b", api.MaxSources))
	both := a.Add(b)
	if m, e := both.Tell(); e != api.ErrSource || !sameMeas(m, api.Meas{}) {
		t.Error(m, e)
	}
	m, e := both.Sub(b).Tell()
	checkMeas(t, "Sub", m, e, many("a", api.MaxSources), api.OK)
	huge := readValue(t, meas(nines(600), "x", ten(599)))
	square := huge.Mul(huge)
	if m, e := square.Tell(); e != api.ErrLarge || !sameMeas(m, api.Meas{}) {
		t.Error(m, e)
	}
	m, e = square.Quo(huge).Tell()
	checkMeas(t, "Quo", m, e, meas(nines(600), "x", ten(599)), api.OK)
	if m, e := both.Mul(square).Tell(); e != api.ErrLarge || !sameMeas(m, api.Meas{}) {
		t.Error(m, e)
	}
	if _, e := huge.Pow(2); e != api.ErrLarge {
		t.Error(e)
	}
	if _, e := readValue(t, meas("0", "x", "1")).Pow(-1); e != api.ErrZero {
		t.Error(e)
	}
}

// By the chain rule: each By times the slope.
func TestMapped(t *testing.T) {
	x := readValue(t, meas("2", "a", "3", "b", "-1/2"))
	m, e := x.Mapped(frac("7"), frac("-2/3")).Tell()
	checkMeas(t, "Mapped", m, e, meas("7", "a", "-2", "b", "1/3"), api.OK)
	m, e = x.Mapped(frac("7"), frac("0")).Tell()
	checkMeas(t, "Mapped without a slope", m, e, meas("7"), api.OK)
	m, e = x.Neg().Tell()
	checkMeas(t, "Neg", m, e, meas("-2", "a", "-3", "b", "1/2"), api.OK)
	m, e = x.Tell()
	checkMeas(t, "what was mapped", m, e, meas("2", "a", "3", "b", "-1/2"), api.OK)
}
