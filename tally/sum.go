package tally

import (
	"slices"
	"sync"

	"cubit/nat"
	"cubit/rat"
)

// A long list is cut for so many adders; a piece has not fewer numbers than fewest, but the last one, as others would not be worth a goroutine.
const (
	adders = 8
	fewest = 32
)

// total: the sum of all. Pieces of the list are added up at one time; as sums are exact, it is the same in whichever order they come.
func total(l []rat.Frac) rat.Frac {
	sums := make(chan rat.Frac, adders)
	var busy sync.WaitGroup
	for piece := range slices.Chunk(l, max(fewest, len(l)/adders+1)) {
		busy.Add(1)
		go func() {
			defer busy.Done()
			sums <- added(piece)
		}()
	}
	busy.Wait()
	close(sums)
	sum := whole(0)
	for s := range sums {
		sum = sum.Add(s)
	}
	return sum
}

// added: half by half, so that long numbers come in few of the steps. There must be one number.
func added(l []rat.Frac) rat.Frac {
	if len(l) == 1 {
		return l[0]
	}
	half := len(l) / 2
	return added(l[:half]).Add(added(l[half:]))
}

func whole(n int) rat.Frac { return rat.Ratio(false, nat.BigOf(uint64(n)), nat.BigOf(1)) }

// products: of each two that stand at one place.
func products(x, y []rat.Frac) []rat.Frac {
	l := make([]rat.Frac, len(x))
	for i := range x {
		l[i] = x[i].Mul(y[i])
	}
	return l
}

// series: one number or more, with their sum.
type series struct {
	all []rat.Frac
	sum rat.Frac
}

func summed(l []rat.Frac) series { return series{l, total(l)} }

func (x series) mean() rat.Frac { return x.sum.Quo(whole(len(x.all))) }

// away: the sum of what each x is away from their mean, times what its y is away from theirs. It is come to without these differences: each of them is long, if a mean is.
func (x series) away(y series) rat.Frac {
	both := x.sum.Mul(y.sum).Quo(whole(len(x.all)))
	return total(products(x.all, y.all)).Sub(both)
}

// middle: of a sorted list the one number in the middle, or the two.
func middle(l []rat.Frac) []rat.Frac { return l[(len(l)-1)/2 : len(l)/2+1] }
