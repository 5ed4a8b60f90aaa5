package flo

import (
	"iter"
	"math"

	"cubit/api"
	"cubit/nat"
)

const (
	signBit  = 1 << 63
	lastBits = 52        // of a float, which hold its m, but for its first bit
	firstBit = 1 << 52   // of an m, unless e is the least
	leastExp = -1074     // the least e
	mostExp  = 971       // the greatest e
	expMask  = 1<<11 - 1 // the bits that tell e
)

// cut: the m and the e of a float's size. m has 53 bits, or e is the least.
func cut(f float64) (m uint64, e int) {
	bits := math.Float64bits(f)
	m, e = bits%firstBit, int(bits>>lastBits&expMask)
	if e == 0 {
		return m, leastExp
	}
	return m + firstBit, leastExp + e - 1
}

// join: the float of an m and an e, as cut tells them.
func join(m uint64, e int) float64 {
	// The first bit of m goes into those that tell e, and makes them one greater, as they are where there is such a bit.
	return math.Float64frombits(uint64(e-leastExp)<<lastBits + m)
}

// size is a number not below 0, num divided by den, which is not 0. It need not be in lowest terms, as it is only compared and divided.
type size struct {
	num, den nat.Big
}

// twoTo, tenTo: to a power, which may be below 0.
func twoTo(n int) size { return whole(nat.BigOf(2).Pow(max(n, -n))).turned(n < 0) }
func tenTo(n int) size { return whole(nat.BigOf(1).Shift(max(n, -n))).turned(n < 0) }

func whole(n nat.Big) size { return size{n, nat.BigOf(1)} }

func (x size) turned(really bool) size {
	if really {
		return size{x.den, x.num}
	}
	return x
}

// sizeOf: of a finite float.
func sizeOf(f float64) size {
	m, e := cut(f)
	return whole(nat.BigOf(m)).times(twoTo(e))
}

func (x size) times(y size) size { return size{x.num.Mul(y.num), x.den.Mul(y.den)} }

// cmp: -1, 0, 1.
func (x size) cmp(y size) int { return x.num.Mul(y.den).Cmp(y.num.Mul(x.den)) }

// places: the n for which x, which must not be 0, is from ten to the n - 1 on, and below ten to the n.
func (x size) places() int {
	// By their digits alone it is this n, or one more.
	n := x.num.Len() - x.den.Len()
	if x.cmp(tenTo(n)) < 0 {
		return n
	}
	return n + 1
}

// nearestTo: the float nearest to x, or, with below, to what is opposite to it.
func nearestTo(below bool, x size) (float64, api.Errno) {
	// Half way behind the greatest float: 2^1024 - 2^970.
	if end := whole(nat.BigOf(1<<54 - 1)).times(twoTo(mostExp - 1)); x.cmp(end) >= 0 {
		return 0, api.ErrInf
	}
	f := x.nearest()
	if below {
		return math.Copysign(f, -1), api.OK
	}
	return f, api.OK
}

// nearest: the float nearest to x, which has one.
func (x size) nearest() float64 {
	nearer := func(f, g float64) bool {
		order := x.away(f).cmp(x.away(g))
		return order < 0 || order == 0 && math.Float64bits(f)%2 == 0
	}
	best := 0.0
	for f := range x.around() {
		if nearer(f, best) {
			best = f
		}
	}
	return best
}

// away: how far a float is away from x, in parts of x's den.
func (x size) away(f float64) size {
	y := sizeOf(f)
	a, b := x.num.Mul(y.den), y.num.Mul(x.den)
	if a.Cmp(b) < 0 {
		a, b = b, a
	}
	return size{a.Sub(b), y.den}
}

// around gives the finite floats between which x lies, rising.
func (x size) around() iter.Seq[float64] {
	return func(yield func(float64) bool) {
		low := x.floor()
		if yield(low) && low < math.MaxFloat64 {
			yield(Next(low, true))
		}
	}
}

// floor: the greatest float not above x, which has a nearest one.
func (x size) floor() float64 {
	if x.num.IsZero() {
		return 0
	}
	e := max(x.bits()-lastBits-1, leastExp)
	scaled := x.times(twoTo(-e))
	often, _ := scaled.num.DivMod(scaled.den)
	m, _ := nat.Int(often.Text())
	for ; m >= 2*firstBit; e++ {
		m /= 2
	}
	return join(m, e)
}

// bits: an n for which x, which must not be 0, is at least 2 to the n - 1; it is less than ten too small.
func (x size) bits() int {
	least := x.num.Len() - x.den.Len() - 1 // x is above ten to that, and below a hundred times as much
	// Ten is two to the 3.3219..: these are a little less, and a little more.
	if least < 0 {
		return least*3402>>10 + 1
	}
	return least*3401>>10 + 1
}
