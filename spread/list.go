package spread

import (
	"cmp"
	"slices"

	"cubit/api"
	"cubit/rat"
)

// turned: what turn makes of each of a list, in their order.
func turned[A, B any](l []A, turn func(A) B) []B {
	all := make([]B, len(l))
	for i, a := range l {
		all[i] = turn(a)
	}
	return all
}

// joined: a list as one: each is joined to what those ahead of it have come to.
func joined[A, B any](l []A, all B, join func(B, A) B) B {
	for _, a := range l {
		all = join(all, a)
	}
	return all
}

// sorted: a list by the first of some orders that tells two of it apart. The list itself stays.
func sorted[A any](l []A, orders ...func(a, b A) int) []A {
	all := slices.Clone(l)
	slices.SortStableFunc(all, func(a, b A) int {
		for _, order := range orders {
			if n := order(a, b); n != 0 {
				return n
			}
		}
		return 0
	})
	return all
}

// share: of a variance, by its source.
type share struct {
	name   string
	square rat.Frac
}

func squareOf(s api.Source) share {
	by, _ := rat.Read(s.By)
	return share{s.Name, by.Mul(by)}
}

func nothing() rat.Frac {
	none, _ := rat.Read(rat.Of(0))
	return none
}

func addTo(sum rat.Frac, s share) rat.Frac { return sum.Add(s.square) }

func greatest(a, b share) int { return b.square.Cmp(a.square) }
func byName(a, b share) int   { return cmp.Compare(a.name, b.name) }
