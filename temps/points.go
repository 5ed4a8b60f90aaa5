package temps

// The points' places.
const (
	absolute = iota
	ice
	triple
	boiling
)

// The points, in kelvin. All but the least one were found on the scale of celsius.
func pointsMade() [4]ratio {
	at := celsiusMade().kelvins
	return [4]ratio{
		absolute: {0, 1},
		ice:      at(ratio{0, 1}),
		triple:   at(ratio{1, 100}),
		boiling:  at(ratio{100, 1}),
	}
}
