package prefix_test

import (
	"math/big"
	"strings"
	"testing"

	"cubit/api"
	"cubit/prefix"
)

// told: the chapter's second table, in the order of its first promise: a name, a symbol, an exponent; of 10, and from kibi on of 1024.
const told = `
	deca da 1; hecto h 2; kilo k 3; mega M 6; giga G 9; tera T 12; peta P 15; exa E 18; zetta Z 21; yotta Y 24; ronna R 27; quetta Q 30;
	deci d -1; centi c -2; milli m -3; micro ` + "\u03bc" + ` -6; nano n -9; pico p -12; femto f -15; atto a -18; zepto z -21; yocto y -24; ronto r -27; quecto q -30;
	kibi Ki 1; mebi Mi 2; gibi Gi 3; tebi Ti 4; pebi Pi 5; exbi Ei 6; zebi Zi 7; yobi Yi 8`

// one: a prefix of the table.
type one struct {
	name, symbol string
	binary       bool
	factor       *big.Rat
}

func table(t testing.TB) []one {
	t.Helper()
	var l []one
	for _, text := range strings.Split(told, ";") {
		words := strings.Fields(text)
		exp, ok := new(big.Int).SetString(words[2], 10)
		if !ok {
			t.Fatal(text)
		}
		binary := len(l) >= 24
		of := int64(10)
		if binary {
			of = 1024
		}
		size := new(big.Int).Exp(big.NewInt(of), new(big.Int).Abs(exp), nil)
		factor := new(big.Rat).SetInt(size)
		if exp.Sign() < 0 {
			factor.Inv(factor)
		}
		l = append(l, one{words[0], words[1], binary, factor})
	}
	if len(l) != 32 {
		t.Fatal(len(l))
	}
	return l
}

func (o one) prefix() api.Prefix {
	return api.Prefix{Name: o.name, Symbol: o.symbol, Factor: ratOf(o.factor), Binary: o.binary}
}

// symbolsOf: its own symbol, and of micro the others.
func (o one) symbolsOf() []string {
	if o.name == "micro" {
		return []string{"\u03bc", "\u00b5", "u"}
	}
	return []string{o.symbol}
}

func named(t testing.TB, name string) api.Prefix {
	t.Helper()
	for _, o := range table(t) {
		if o.name == name {
			return o.prefix()
		}
	}
	t.Fatal(name)
	return api.Prefix{}
}

func ratOf(r *big.Rat) api.Rat {
	return api.Rat{Num: r.Num().String(), Den: r.Denom().String()}
}

func bigOf(t testing.TB, r api.Rat) *big.Rat {
	t.Helper()
	b, ok := new(big.Rat).SetString(r.Num + "/" + r.Den)
	if !ok {
		t.Fatal(r)
	}
	return b
}

func number(t testing.TB, text string) api.Rat {
	t.Helper()
	b, ok := new(big.Rat).SetString(text)
	if !ok {
		t.Fatal(text)
	}
	return ratOf(b)
}

func checkSplit(t *testing.T, word string, units []api.Unit, want api.Prefix, at int, why api.Errno) {
	t.Helper()
	if p, n, e := prefix.Split(word, units); p != want || n != at || e != why {
		t.Errorf("Split(%.90q, %v) = %v, %d, %d, not %v, %d, %d", word, units, p, n, e, want, at, why)
	}
}

func checkBest(t *testing.T, r api.Rat, binary bool, want api.Prefix, by api.Rat, why api.Errno) {
	t.Helper()
	if p, q, e := prefix.Best(r, binary); p != want || q != by || e != why {
		t.Errorf("Best(%.90q, %v) = %v, %.90q, %d, not %v, %.90q, %d", r, binary, p, q, e, want, by, why)
	}
}
