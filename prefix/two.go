package prefix

// The binary prefixes, each made out of those on which it leans.
func yobiMade() power { return zebiMade().times(kibiMade()) }
func zebiMade() power { return exbiMade().times(kibiMade()) }
func exbiMade() power { return pebiMade().times(kibiMade()) }
func pebiMade() power { return tebiMade().times(kibiMade()) }
func tebiMade() power { return gibiMade().times(kibiMade()) }
func gibiMade() power { return mebiMade().times(kibiMade()) }
func mebiMade() power { return kibiMade().times(kibiMade()) }
func kibiMade() power { return power{of: 1024, exp: 1} }
