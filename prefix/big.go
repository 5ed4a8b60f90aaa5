package prefix

// The prefixes of 10 and more, each made out of those on which it leans.
func quettaMade() power { return ronnaMade().times(kiloMade()) }
func ronnaMade() power  { return yottaMade().times(kiloMade()) }
func yottaMade() power  { return zettaMade().times(kiloMade()) }
func zettaMade() power  { return exaMade().times(kiloMade()) }
func exaMade() power    { return petaMade().times(kiloMade()) }
func petaMade() power   { return teraMade().times(kiloMade()) }
func teraMade() power   { return gigaMade().times(kiloMade()) }
func gigaMade() power   { return megaMade().times(kiloMade()) }
func megaMade() power   { return kiloMade().times(kiloMade()) }
func kiloMade() power   { return hectoMade().times(decaMade()) }
func hectoMade() power  { return decaMade().times(decaMade()) }
func decaMade() power   { return power{of: 10, exp: 1} }
