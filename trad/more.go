package trad

// Units of area, volume, mass, and what is made of them.

func acreMade() amount {
	foot := footMade()
	squares := foot.times(foot).multiple
	return squares(43560, 1)
}

func atmosphereMade() amount {
	pascals := one(pascal).multiple
	return pascals(101325, 1)
}

func calorieMade() amount {
	joules := one(joule).multiple
	return joules(4184, 1000)
}

func gallonMade() amount {
	inch := inchMade()
	cubes := inch.times(inch).times(inch).multiple
	return cubes(231, 1)
}

func grainMade() amount {
	pounds := poundMade().multiple
	return pounds(1, 7000)
}

func horsepowerMade() amount {
	perSecond := footMade().times(poundforceMade()).by(one(second)).multiple
	return perSecond(550, 1)
}

func ounceMade() amount {
	pounds := poundMade().multiple
	return pounds(1, 16)
}

func pintMade() amount {
	gallons := gallonMade().multiple
	return gallons(1, 8)
}

func poundMade() amount {
	kilograms := kilogram().multiple
	return kilograms(45359237, 100000000)
}

// The force that holds a pound: by how much faster it would fall each second.
func poundforceMade() amount {
	faster := poundMade().times(one(metre)).by(one(second)).by(one(second)).multiple
	return faster(980665, 100000)
}

func psiMade() amount {
	inch := inchMade()
	return poundforceMade().by(inch.times(inch))
}

func stoneMade() amount {
	pounds := poundMade().multiple
	return pounds(14, 1)
}

func tonMade() amount {
	pounds := poundMade().multiple
	return pounds(2000, 1)
}

func torrMade() amount {
	atmospheres := atmosphereMade().multiple
	return atmospheres(1, 760)
}
