package si

// All groups, as the start makes them.
func allMade() [9]group {
	return [9]group{forceMade(), energyMade(), powerMade(), electricMade(), timesMade(), raysMade(), planeMade(), lightMade(), alongMade()}
}

func electricMade() group {
	watt := powerMade().units[0]
	return grouped(func(put func(amount) amount) {
		coulomb := put(one(ampere).times(one(second)))
		volt := put(watt.by(one(ampere)))
		put(coulomb.by(volt)) // farad
		ohm := put(volt.by(one(ampere)))
		put(number(1).by(ohm)) // siemens
		weber := put(volt.times(one(second)))
		put(weber.by(one(metre)).by(one(metre))) // tesla
		put(weber.by(one(ampere)))               // henry
	})
}
