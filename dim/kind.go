package dim

import "cubit/api"

// kind: a quantity's name, and its dimension.
type kind struct {
	name string
	dim  api.Dim
}

// kinds: no two have one name, or one dimension.
func kinds() []kind {
	return []kind{
		{"number", api.Dim{}},
		{"length", api.Dim{length: 1}},
		{"mass", api.Dim{mass: 1}},
		{"time", api.Dim{time: 1}},
		{"current", api.Dim{current: 1}},
		{"temperature", api.Dim{temperature: 1}},
		{"amount", api.Dim{amount: 1}},
		{"light", api.Dim{light: 1}},
		{"information", api.Dim{information: 1}},
		{"volume", api.Dim{length: 3}},
		{"speed", api.Dim{length: 1, time: -1}},
		{"force", api.Dim{length: 1, mass: 1, time: -2}},
		{"energy", api.Dim{length: 2, mass: 1, time: -2}},
		{"density", api.Dim{length: -3, mass: 1}},
		{"action", api.Dim{length: 2, mass: 1, time: -1}},
		{"charge", api.Dim{time: 1, current: 1}},
		{"voltage", api.Dim{length: 2, mass: 1, time: -3, current: -1}},
		{"resistance", api.Dim{length: 2, mass: 1, time: -3, current: -2}},
		{"conductance", api.Dim{length: -2, mass: -1, time: 3, current: 2}},
		{"capacitance", api.Dim{length: -2, mass: -1, time: 4, current: 2}},
		{"inductance", api.Dim{length: 2, mass: 1, time: -2, current: -2}},
		{"flux", api.Dim{length: 2, mass: 1, time: -2, current: -1}},
		{"field", api.Dim{mass: 1, time: -2, current: -1}},
		{"area", api.Dim{length: 2}},
		{"frequency", api.Dim{time: -1}},
		{"acceleration", api.Dim{length: 1, time: -2}},
		{"pressure", api.Dim{length: -1, mass: 1, time: -2}},
		{"power", api.Dim{length: 2, mass: 1, time: -3}},
		{"momentum", api.Dim{length: 1, mass: 1, time: -1}},
		{"entropy", api.Dim{length: 2, mass: 1, time: -2, temperature: -1}},
	}
}

// Kind: the name of the quantities of that dimension.
func Kind(d api.Dim) (string, bool) {
	for _, k := range kinds() {
		if k.dim == d {
			return k.name, true
		}
	}
	return "", false
}

// Of: the dimension of that kind of quantities.
func Of(kind string) (api.Dim, bool) {
	for _, k := range kinds() {
		if k.name == kind {
			return k.dim, true
		}
	}
	return api.Dim{}, false
}
