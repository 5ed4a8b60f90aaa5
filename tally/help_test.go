package tally_test

import (
	"fmt"
	"math/big"
	"math/rand"
	"slices"
	"strings"
	"testing"

	"cubit/api"
	"cubit/rat"
)

// short: a thing as text, but not all of it.
func short(v any) string { return fmt.Sprintf("%.300s", fmt.Sprintf("%+v", v)) }

func pick[T any](r *rand.Rand, l ...T) T { return l[r.Intn(len(l))] }

// number: of a text as rat reads it.
func number(text string) api.Rat {
	v, e, _ := rat.Parse(text)
	if e != api.OK {
		panic("no number: " + text)
	}
	return v
}

// numbers: of a text, with blanks between.
func numbers(text string) []api.Rat {
	var l []api.Rat
	for _, word := range strings.Fields(text) {
		l = append(l, number(word))
	}
	return l
}

func bigOf(r api.Rat) *big.Rat {
	v, ok := new(big.Rat).SetString(r.Num + "/" + r.Den)
	if !ok {
		panic("no number: " + r.Num + "/" + r.Den)
	}
	return v
}

func bigs(l []api.Rat) []*big.Rat {
	var all []*big.Rat
	for _, r := range l {
		all = append(all, bigOf(r))
	}
	return all
}

// told: numbers, or, if one is too large, as many zero values and ErrLarge.
func told(l ...*big.Rat) ([]api.Rat, api.Errno) {
	out := make([]api.Rat, len(l))
	for i, v := range l {
		num, den := v.Num().String(), v.Denom().String()
		if len(strings.TrimPrefix(num, "-")) > 600 || len(den) > 600 {
			return make([]api.Rat, len(l)), api.ErrLarge
		}
		out[i] = api.Rat{Num: num, Den: den}
	}
	return out, api.OK
}

func plus(a, b *big.Rat) *big.Rat  { return new(big.Rat).Add(a, b) }
func minus(a, b *big.Rat) *big.Rat { return new(big.Rat).Sub(a, b) }
func times(a, b *big.Rat) *big.Rat { return new(big.Rat).Mul(a, b) }
func over(a, b *big.Rat) *big.Rat  { return new(big.Rat).Quo(a, b) }
func whole(n int) *big.Rat         { return big.NewRat(int64(n), 1) }

func sum(l []*big.Rat) *big.Rat {
	s := new(big.Rat)
	for _, v := range l {
		s = plus(s, v)
	}
	return s
}

func mean(l []*big.Rat) *big.Rat { return over(sum(l), whole(len(l))) }

// differences: what each is away from a number.
func differences(l []*big.Rat, from *big.Rat) []*big.Rat {
	var all []*big.Rat
	for _, v := range l {
		all = append(all, minus(v, from))
	}
	return all
}

// dot: the sum of the products.
func dot(a, b []*big.Rat) *big.Rat {
	s := new(big.Rat)
	for i := range a {
		s = plus(s, times(a[i], b[i]))
	}
	return s
}

func digits(r *rand.Rand, n int) string {
	b := []byte{byte('1' + r.Intn(9))}
	for len(b) < n {
		b = append(b, byte('0'+r.Intn(10)))
	}
	return string(b)
}

// sample: a number that is right, with so many digits at the most.
func sample(r *rand.Rand, most int) api.Rat {
	if r.Intn(12) == 0 {
		return pick(r, rat.Of(0), rat.Of(1), rat.Of(-1), number("1/2"))
	}
	v, e := rat.New(pick(r, "", "-")+digits(r, 1+r.Intn(most)), pick(r, "1", "10", "8", digits(r, 1+r.Intn(most))))
	if e != api.OK {
		panic("no sample")
	}
	return v
}

func samples(r *rand.Rand, n, most int) []api.Rat {
	l := make([]api.Rat, n)
	for i := range l {
		l[i] = sample(r, most)
	}
	return l
}

// above: numbers above 0.
func above(l []api.Rat) []api.Rat {
	l = slices.Clone(l)
	for i := range l {
		l[i].Num = strings.TrimPrefix(l[i].Num, "-")
		if l[i].Num == "0" {
			l[i] = rat.Of(3)
		}
	}
	return l
}

// wrongs: numbers that are not right.
func wrongs() []api.Rat {
	return []api.Rat{{}, {Num: "2", Den: "4"}, {Num: "-0", Den: "1"}, {Num: "1", Den: "0"}, {Num: "1", Den: "-1"}, {Num: "1" + strings.Repeat("0", 600), Den: "1"}, {Num: "01", Den: "1"}, {Num: "0", Den: "2"}, {Num: "1", Den: "1" + strings.Repeat("0", 600)}}
}

// answer: what a call has told.
type answer struct {
	numbers []api.Rat
	why     api.Errno
}

func one(v api.Rat, why api.Errno) answer { return answer{[]api.Rat{v}, why} }

func two(v, w api.Rat, why api.Errno) answer { return answer{[]api.Rat{v, w}, why} }

func three(v, w, x api.Rat, why api.Errno) answer { return answer{[]api.Rat{v, w, x}, why} }

func model(l ...*big.Rat) answer {
	numbers, why := told(l...)
	return answer{numbers, why}
}

// refused: is it that error, with zero values beside it?
func (a answer) refused(why api.Errno) bool {
	return a.why == why && !slices.ContainsFunc(a.numbers, func(v api.Rat) bool { return v != api.Rat{} })
}

func (a answer) is(b answer) bool { return a.why == b.why && slices.Equal(a.numbers, b.numbers) }

func check(t *testing.T, name string, got, want answer) {
	t.Helper()
	if !got.is(want) {
		t.Errorf("%s = %s, not %s", name, short(got), short(want))
	}
}

func refuse(t *testing.T, name string, got answer, why api.Errno) {
	t.Helper()
	if !got.refused(why) {
		t.Errorf("%s = %s, not error %d", name, short(got), why)
	}
}
