package si

func lightMade() group {
	steradian := planeMade().units[1]
	return grouped(func(put func(amount) amount) {
		lumen := put(one(candela).times(steradian))
		put(lumen.by(one(metre)).by(one(metre))) // lux
	})
}

func raysMade() group {
	joule, hertz := energyMade().units[0], timesMade().units[0]
	return grouped(func(put func(amount) amount) {
		put(hertz) // becquerel
		gray := put(joule.by(one(kilogram)))
		put(gray)                   // sievert
		put(one(mole).times(hertz)) // katal
	})
}
