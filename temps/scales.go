package temps

// Its degrees are those of rankine, and where celsius has 0 it has 32.
func fahrenheitMade() scale {
	rankine, celsius := rankineMade(), celsiusMade()
	degrees, at := rankine.kelvins, celsius.kelvins
	return scale{factor: rankine.factor, offset: at(ratio{0, 1}).less(degrees(ratio{32, 1}))}
}

func rankineMade() scale { return scale{factor: ratio{5, 9}, offset: ratio{0, 1}} }

func celsiusMade() scale { return scale{factor: ratio{1, 1}, offset: ratio{27315, 100}} }
