package prefix_test

import (
	"math/big"
	"testing"

	"cubit/api"
	"cubit/prefix"
	"cubit/rat"
)

// P7.1.
func TestAll(t *testing.T) {
	all := prefix.All()
	want := table(t)
	if len(all) != len(want) {
		t.Fatal(len(all))
	}
	for i, p := range all {
		if p != want[i].prefix() {
			t.Errorf("at %d stands %v, not %v", i, p, want[i].prefix())
		}
		if !rat.Right(p.Factor) {
			t.Errorf("the factor of %s is not right", p.Name)
		}
	}
}

// P7.1: what is answered is new.
func TestAllIsNew(t *testing.T) {
	for i := range prefix.All() {
		prefix.All()[i] = api.Prefix{Name: "?"}
	}
	_ = append(prefix.All()[:3], api.Prefix{})
	TestAll(t)
}

// leaning: the chapter's first table, but the files: the variables in the order of the text, each ahead of those on which it leans.
func leaning() [][]string {
	return [][]string{
		{"quetta", "ronna", "kilo"}, {"ronna", "yotta", "kilo"}, {"yotta", "zetta", "kilo"}, {"zetta", "exa", "kilo"}, {"exa", "peta", "kilo"}, {"peta", "tera", "kilo"}, {"tera", "giga", "kilo"}, {"giga", "mega", "kilo"}, {"mega", "kilo"}, {"kilo", "hecto", "deca"}, {"hecto", "deca"}, {"deca"},
		{"deci", "deca"}, {"centi", "hecto"}, {"milli", "kilo"}, {"micro", "mega"}, {"nano", "giga"}, {"pico", "tera"}, {"femto", "peta"}, {"atto", "exa"}, {"zepto", "zetta"}, {"yocto", "yotta"}, {"ronto", "ronna"}, {"quecto", "quetta"},
		{"yobi", "zebi", "kibi"}, {"zebi", "exbi", "kibi"}, {"exbi", "pebi", "kibi"}, {"pebi", "tebi", "kibi"}, {"tebi", "gibi", "kibi"}, {"gibi", "mebi", "kibi"}, {"mebi", "kibi"}, {"kibi"},
	}
}

// P7.1, P2: the order is that of a start: again and again the first one that leans on none that is missing.
func TestOrderOfTheStart(t *testing.T) {
	stands := map[string]bool{}
	var order []string
	for len(order) < len(leaning()) {
		for _, line := range leaning() {
			ready := !stands[line[0]]
			for _, other := range line[1:] {
				ready = ready && stands[other]
			}
			if ready {
				stands[line[0]] = true
				order = append(order, line[0])
				break
			}
		}
	}
	for i, p := range prefix.All() {
		if p.Name != order[i] {
			t.Errorf("at %d stands %s, not %s", i, p.Name, order[i])
		}
	}
}

// P7.1, P7.4.
func TestFind(t *testing.T) {
	for _, o := range table(t) {
		for _, s := range append(o.symbolsOf(), o.name) {
			if p, ok := prefix.Find(s); p != o.prefix() || !ok {
				t.Errorf("Find(%q) = %v, %v", s, p, ok)
			}
		}
	}
	for _, s := range []string{"", " ", "K", "kilo ", " kilo", "Kilo", "KILO", "kil", "kilok", "kk", "mu", "\u00b5\u00b5", "\u03bcu", "\xc2", "\xb5", "\xce", "\xbc", "\u039c", "D", "DA", "dA", "Da", "none", "10", "exabi", "ki", "KI", "bi", "\x00", "i"} {
		if p, ok := prefix.Find(s); p != (api.Prefix{}) || ok {
			t.Errorf("Find(%q) = %v, %v", s, p, ok)
		}
	}
}

// P7.1: of all texts of one and two bytes just the symbols are found.
func TestFindShort(t *testing.T) {
	symbols := map[string]string{}
	for _, o := range table(t) {
		for _, s := range o.symbolsOf() {
			symbols[s] = o.name
		}
	}
	for first := range 256 {
		for second := -1; second < 256; second++ {
			s := string([]byte{byte(first)})
			if second >= 0 {
				s += string([]byte{byte(second)})
			}
			name, is := symbols[s]
			if p, ok := prefix.Find(s); ok != is || p.Name != name {
				t.Errorf("Find(%q) = %v, %v", s, p, ok)
			}
		}
	}
}

func factors(t *testing.T) map[string]*big.Rat {
	l := map[string]*big.Rat{}
	for _, p := range prefix.All() {
		l[p.Name] = bigOf(t, p.Factor)
	}
	return l
}

// P7.4: each greater one is the one behind it times the first one.
func TestPowers(t *testing.T) {
	f := factors(t)
	for _, l := range [][]string{
		{"kilo", "mega", "giga", "tera", "peta", "exa", "zetta", "yotta", "ronna", "quetta"},
		{"kibi", "mebi", "gibi", "tebi", "pebi", "exbi", "zebi", "yobi"},
	} {
		power := big.NewRat(1, 1)
		for _, name := range l {
			power.Mul(power, f[l[0]])
			if power.Cmp(f[name]) != 0 {
				t.Errorf("%s is %v", name, f[name])
			}
		}
	}
	if f["kilo"].Cmp(big.NewRat(1000, 1)) != 0 || f["kibi"].Cmp(big.NewRat(1024, 1)) != 0 {
		t.Error(f["kilo"], f["kibi"])
	}
}

// P7.4: each smaller one times its counterpart is 1.
func TestCounterparts(t *testing.T) {
	f := factors(t)
	for small, great := range map[string]string{"deci": "deca", "centi": "hecto", "milli": "kilo", "micro": "mega", "nano": "giga", "pico": "tera", "femto": "peta", "atto": "exa", "zepto": "zetta", "yocto": "yotta", "ronto": "ronna", "quecto": "quetta"} {
		if product := new(big.Rat).Mul(f[small], f[great]); product.Cmp(big.NewRat(1, 1)) != 0 {
			t.Errorf("%s times %s is %v", small, great, product)
		}
	}
}
