package trad

// Units of length and speed. What makes multiples of a unit is called by that unit's name.

func fathomMade() amount {
	feet := footMade().multiple
	return feet(6, 1)
}

func footMade() amount {
	inches := inchMade().multiple
	return inches(12, 1)
}

func handMade() amount {
	inches := inchMade().multiple
	return inches(4, 1)
}

func inchMade() amount {
	metres := one(metre).multiple
	return metres(254, 10000)
}

func knotMade() amount {
	seconds := one(second).multiple
	return nauticalMade().by(seconds(3600, 1))
}

func mileMade() amount {
	yards := yardMade().multiple
	return yards(1760, 1)
}

func nauticalMade() amount {
	metres := one(metre).multiple
	return metres(1852, 1)
}

func yardMade() amount {
	feet := footMade().multiple
	return feet(3, 1)
}
