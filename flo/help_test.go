package flo_test

import (
	"math"
	"math/big"
	"math/rand"
	"strings"
	"testing"

	"cubit/api"
)

var (
	negZero = math.Copysign(0, -1)
	inf     = math.Inf(1)
	nan     = math.NaN()
)

const (
	least  = math.SmallestNonzeroFloat64
	normal = 0x1p-1022 // the least with all 53 bits
	most   = math.MaxFloat64
)

// nans: not a number, by other bits.
func nans() []float64 {
	return []float64{nan, math.Float64frombits(0x7ff0000000000001), math.Float64frombits(0x7fffffffffffffff), math.Float64frombits(0xfff0000000000001), math.Float64frombits(0xffffffffffffffff)}
}

// line: floats in the order, all of them other ones.
func line() []float64 {
	up := []float64{0, least, 2 * least, math.Nextafter(normal, 0), normal, math.Nextafter(normal, 1), 1e-300, 0.1, math.Nextafter(1, 0), 1, math.Nextafter(1, 2), 1.5, 2, 1 << 53, 1<<53 + 2, 1e22, 1e300, math.Nextafter(most, 0), most, inf}
	var l []float64
	for i := len(up) - 1; i >= 0; i-- {
		l = append(l, -up[i])
	}
	l[len(l)-1] = negZero
	return append(l, up...)
}

// same: the same bits, or both not a number.
func same(a, b float64) bool {
	return math.Float64bits(a) == math.Float64bits(b) || a != a && b != b
}

// samples: finite floats of all kinds.
func samples(seed int64, n int) []float64 {
	r := rand.New(rand.NewSource(seed))
	l := []float64{}
	for _, f := range line() {
		if !math.IsInf(f, 0) {
			l = append(l, f)
		}
	}
	for len(l) < n {
		f := math.Float64frombits(r.Uint64())
		switch r.Intn(8) {
		case 0: // powers of two and those beside them, where the room is not the same on both sides
			f = math.Ldexp(1, r.Intn(2098)-1074)
			f = math.Float64frombits(math.Float64bits(f) + uint64(r.Intn(3)) - 1)
		case 1:
			f = float64(r.Intn(1000000)) / math.Pow(10, float64(r.Intn(12)))
		case 2:
			f = float64(r.Intn(1000)) * math.Pow(10, float64(r.Intn(300)))
		case 3: // few bits, and those below the least normal one
			f = math.Float64frombits(r.Uint64() >> (11 + r.Intn(52)))
		case 4:
			f = float64(r.Int63())
		}
		if !math.IsInf(f, 0) && f == f {
			l = append(l, f)
		}
	}
	return l
}

func bigRat(t *testing.T, s string) *big.Rat {
	t.Helper()
	v, ok := new(big.Rat).SetString(s)
	if !ok {
		t.Fatalf("%q is no number", s)
	}
	return v
}

// number: as the program has it, whatever its digits.
func number(v *big.Rat) api.Rat { return api.Rat{Num: v.Num().String(), Den: v.Denom().String()} }

func exactly(f float64) *big.Rat { return new(big.Rat).SetFloat64(f) }

// power: two to the n.
func power(n int) *big.Rat {
	v := new(big.Rat).SetInt(new(big.Int).Lsh(big.NewInt(1), uint(max(n, -n))))
	if n < 0 {
		v.Inv(v)
	}
	return v
}

func ten(n int) string { return "1" + strings.Repeat("0", n) }

func wrongs() []api.Rat {
	return []api.Rat{{}, {Num: "1"}, {Den: "1"}, {Num: "1", Den: "0"}, {Num: "0", Den: "2"}, {Num: "-0", Den: "1"}, {Num: "2", Den: "4"}, {Num: "1", Den: "-2"}, {Num: "+1", Den: "2"}, {Num: "01", Den: "2"}, {Num: "1.5", Den: "1"}, {Num: "NaN", Den: "1"}, {Num: ten(600), Den: "1"}, {Num: "1", Den: ten(600)}}
}
