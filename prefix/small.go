package prefix

// The prefixes below 1, each 1 by its greater counterpart.
func deciMade() power   { return decaMade().inverse() }
func centiMade() power  { return hectoMade().inverse() }
func milliMade() power  { return kiloMade().inverse() }
func microMade() power  { return megaMade().inverse() }
func nanoMade() power   { return gigaMade().inverse() }
func picoMade() power   { return teraMade().inverse() }
func femtoMade() power  { return petaMade().inverse() }
func attoMade() power   { return exaMade().inverse() }
func zeptoMade() power  { return zettaMade().inverse() }
func yoctoMade() power  { return yottaMade().inverse() }
func rontoMade() power  { return ronnaMade().inverse() }
func quectoMade() power { return quettaMade().inverse() }
