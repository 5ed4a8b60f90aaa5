package tally

import (
	"iter"

	"cubit/api"
	"cubit/rat"
)

// weighing gives what Weighted tells: the variance, the mean, chi square.
func weighing(values, stds []rat.Frac) iter.Seq[rat.Frac] {
	return func(yield func(rat.Frac) bool) {
		weights := make([]rat.Frac, len(stds))
		for i, std := range stds {
			weights[i] = std.Mul(std).Inv()
		}
		weight := total(weights)
		if !yield(weight.Inv()) {
			return
		}
		weighted := products(weights, values)
		mean := total(weighted).Quo(weight)
		if !yield(mean) {
			return
		}
		// As in series.away, without the differences.
		yield(total(products(weighted, values)).Sub(mean.Mul(mean).Mul(weight)))
	}
}

// fitting gives what Fit tells: the slope, and where the line is at 0. Two x at least must differ.
func fitting(allX, allY []rat.Frac) iter.Seq[rat.Frac] {
	return func(yield func(rat.Frac) bool) {
		x, y := summed(allX), summed(allY)
		slope := x.away(y).Quo(x.away(x))
		if yield(slope) {
			yield(y.mean().Sub(slope.Mul(x.mean())))
		}
	}
}

// tellAll: so many numbers, if all of them are right: else none of them is told. None is asked for behind one that is too large, as it might be long to come to.
func tellAll(count int, numbers iter.Seq[rat.Frac]) ([]api.Rat, api.Errno) {
	var told []api.Rat
	for f := range numbers {
		r, why := f.Tell()
		if why != api.OK {
			return make([]api.Rat, count), why
		}
		told = append(told, r)
	}
	return told, api.OK
}
