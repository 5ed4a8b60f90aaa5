package pool

import (
	"slices"

	"cubit/api"
	"cubit/conv"
)

// pieceSize: so many numbers are converted at a turn; one alone would hardly be worth it.
const pieceSize = 64

// converted: each number of one unit as one of another, both as conv.Unit tells them; or the first fault, and its place.
func converted(l []api.Rat, from, to api.Unit, workers int) ([]api.Rat, api.Errno, int) {
	out, whys := make([]api.Rat, len(l)), make([]api.Errno, len(l))
	pieces := (len(l) + pieceSize - 1) / pieceSize
	join := share(pieces, workers, func(n int) {
		for i := n * pieceSize; i < min((n+1)*pieceSize, len(l)); i++ {
			m, why := conv.Between(api.Meas{Value: l[i]}, from, to)
			out[i], whys[i] = m.Value, why
		}
	})
	join()
	isFault := func(why api.Errno) bool { return why != api.OK }
	if at := slices.IndexFunc(whys, isFault); at >= 0 {
		return nil, whys[at], at
	}
	return out, api.OK, 0
}
