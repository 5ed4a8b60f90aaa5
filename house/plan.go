package house

import (
	"slices"
	"strings"

	"cubit/api"
)

// letters: a short text in whole numbers; behind its end noughts.
type letters [5]rune

func (l letters) text() string { return strings.TrimRight(string(l[:]), "\x00") }

// alias: another word, and the symbol of the unit for which it stands.
type alias struct{ word, of letters }

func aliasesMade() [11]alias {
	celsius, fahrenheit, rankine := letters{0xb0, 'C'}, letters{0xb0, 'F'}, letters{0xb0, 'R'}
	return [11]alias{
		{letters{'m', 'e', 't', 'e', 'r'}, letters{'m'}},
		{letters{'l', 'i', 't', 'e', 'r'}, letters{'L'}},
		{letters{'l'}, letters{'L'}},
		{letters{'s', 'e', 'c'}, letters{'s'}},
		{letters{'h', 'r'}, letters{'h'}},
		{letters{'a', 'm', 'p'}, letters{'A'}},
		{letters{'d', 'e', 'g', 'C'}, celsius},
		{letters{0x2103}, celsius},
		{letters{'d', 'e', 'g', 'F'}, fahrenheit},
		{letters{0x2109}, fahrenheit},
		{letters{'d', 'e', 'g', 'R'}, rankine},
	}
}

// The packages of the own house, by their numbers.
const (
	inApi = iota
	inNat
	inRat
	inDim
	inNames
	inPrefix
	inReg
	inBase
	inSi
	inNature
	inTemps
	inTrad
	inGraph
	inStart
	inHouse
	packages
)

// folders: in the order of these numbers.
const folders = "api nat rat dim names prefix reg base si nature temps trad graph start house"

// The plan: of each package which others it imports, a bit for the number of each.
func planMade() [packages]int {
	const units = 1<<inApi | 1<<inDim | 1<<inRat | 1<<inReg
	const given = units | 1<<inBase | 1<<inSi | 1<<inTemps | 1<<inTrad | 1<<inPrefix | 1<<inNature
	return [packages]int{
		inNat:    1 << inApi,
		inRat:    1<<inApi | 1<<inNat,
		inDim:    1 << inApi,
		inNames:  1 << inApi,
		inPrefix: 1<<inApi | 1<<inRat,
		inReg:    1<<inApi | 1<<inDim | 1<<inNames | 1<<inPrefix | 1<<inRat,
		inBase:   units,
		inSi:     units | 1<<inBase | 1<<inPrefix,
		inNature: units | 1<<inSi,
		inTemps:  units | 1<<inSi,
		inTrad:   units | 1<<inBase | 1<<inSi,
		inGraph:  1<<inApi | 1<<inRat,
		inStart:  1 << inApi,
		inHouse:  given | 1<<inNames | 1<<inGraph | 1<<inStart,
	}
}

// Plan: the packages of the own house's start, as package start takes them.
func Plan() []api.Package {
	var l []api.Package
	for n, imports := range planMade() {
		l = append(l, api.Package{Path: path(n), Imports: imported(imports), Files: files(n)})
	}
	return l
}

func folder(n int) string { return strings.Fields(folders)[n] }

func path(n int) string { return "cubit/" + folder(n) }

// imported: the paths of the packages whose bits are set, sorted.
func imported(bits int) []string {
	var l []string
	for n := range packages {
		if bits>>n&1 == 1 {
			l = append(l, path(n))
		}
	}
	slices.Sort(l)
	return l
}

// files: of a package, with their variables, as the tables of variables have them.
func files(n int) []api.File {
	var l []api.File
	for line := range strings.Lines(variables) {
		words := strings.Fields(line)
		if words[0] != folder(n) {
			continue
		}
		if len(l) == 0 || l[len(l)-1].Name != words[1] {
			l = append(l, api.File{Name: words[1]})
		}
		f := &l[len(l)-1]
		f.Vars = append(f.Vars, api.Var{Name: words[2], Uses: words[3:]})
	}
	return l
}

// variables: a line each: its package, its file, its name, and those on which it leans.
const variables = `prefix big.go quetta ronna kilo
prefix big.go ronna yotta kilo
prefix big.go yotta zetta kilo
prefix big.go zetta exa kilo
prefix big.go exa peta kilo
prefix big.go peta tera kilo
prefix big.go tera giga kilo
prefix big.go giga mega kilo
prefix big.go mega kilo
prefix big.go kilo hecto deca
prefix big.go hecto deca
prefix big.go deca
prefix small.go deci deca
prefix small.go centi hecto
prefix small.go milli kilo
prefix small.go micro mega
prefix small.go nano giga
prefix small.go pico tera
prefix small.go femto peta
prefix small.go atto exa
prefix small.go zepto zetta
prefix small.go yocto yotta
prefix small.go ronto ronna
prefix small.go quecto quetta
prefix two.go yobi zebi kibi
prefix two.go zebi exbi kibi
prefix two.go exbi pebi kibi
prefix two.go pebi tebi kibi
prefix two.go tebi gibi kibi
prefix two.go gibi mebi kibi
prefix two.go mebi kibi
prefix two.go kibi
base base.go bit
base base.go candela metre gram second
base base.go mole
base base.go kelvin metre gram second
base base.go ampere second
base base.go gram metre second
base base.go second
base base.go metre second
si electric.go all force energy power electric times rays plane light along
si electric.go electric power
si light.go light plane
si light.go rays energy times
si mechanic.go force
si mechanic.go energy force
si mechanic.go power energy
si mechanic.go times
si mechanic.go plane
si mechanic.go along force
trad long.go fathom foot
trad long.go foot inch
trad long.go hand inch
trad long.go inch
trad long.go knot nautical
trad long.go mile yard
trad long.go nautical
trad long.go yard foot
trad more.go acre foot
trad more.go atmosphere
trad more.go calorie
trad more.go gallon inch
trad more.go grain pound
trad more.go horsepower foot poundforce
trad more.go ounce pound
trad more.go pint gallon
trad more.go pound
trad more.go poundforce pound
trad more.go psi inch poundforce
trad more.go stone pound
trad more.go ton pound
trad more.go torr atmosphere
temps points.go points celsius
temps scales.go fahrenheit rankine celsius
temps scales.go rankine
temps scales.go celsius
nature nature.go faraday charge avogadro
nature nature.go gas boltzmann avogadro
nature nature.go josephson charge planck
nature nature.go klitzing planck charge
nature nature.go avogadro
nature nature.go boltzmann
nature nature.go charge
nature nature.go electron
nature nature.go gravitation
nature nature.go gravity
nature nature.go light
nature nature.go planck
nature nature.go proton
house house.go board parts aliases
house house.go parts
house plan.go aliases
house plan.go plan
`
