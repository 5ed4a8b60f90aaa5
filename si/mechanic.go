package si

func forceMade() group {
	return grouped(func(put func(amount) amount) {
		newton := put(one(kilogram).times(one(metre)).by(one(second)).by(one(second)))
		put(newton.by(one(metre)).by(one(metre))) // pascal
	})
}

func energyMade() group {
	newton := forceMade().units[0]
	return grouped(func(put func(amount) amount) {
		put(newton.times(one(metre))) // joule
	})
}

func powerMade() group {
	joule := energyMade().units[0]
	return grouped(func(put func(amount) amount) {
		put(joule.by(one(second))) // watt
	})
}

func timesMade() group {
	return grouped(func(put func(amount) amount) {
		put(number(1).by(one(second))) // hertz
	})
}

// An arc by its radius, and a part of a sphere by the square of its radius.
func planeMade() group {
	return grouped(func(put func(amount) amount) {
		radian := put(one(metre).by(one(metre)))
		put(radian.times(radian)) // steradian
	})
}

// Those that are not coherent.
func alongMade() group {
	pascal := forceMade().units[1]
	return grouped(func(put func(amount) amount) {
		minute := put(number(60).times(one(second)))
		hour := put(number(60).times(minute))
		put(number(24).times(hour)) // day
		square := one(metre).times(one(metre))
		put(square.times(one(metre)).by(number(1000))) // litre
		put(number(1000).times(one(kilogram)))         // tonne
		put(number(100000).times(pascal))              // bar
		put(number(10000).times(square))               // hectare
		put(number(8).times(one(bit)))                 // byte
	})
}
