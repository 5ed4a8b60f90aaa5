package reg_test

import (
	"math"
	"math/rand"
	"strings"
	"testing"

	"cubit/api"
	"cubit/dim"
	"cubit/rat"
	"cubit/reg"
)

// P8.1.
func TestNew(t *testing.T) {
	r := reg.New()
	if r == nil || r == reg.New() || r.Sealed() {
		t.Fatal(r)
	}
	new(model).check(t, r, []string{"m", "km", "2m", "in", ""})
}

// P8.2.
func TestAdd(t *testing.T) {
	r := reg.New()
	checkWhy(t, "Add", r.Add(metre()), api.OK)
	checkWhy(t, "Add twice", r.Add(metre()), api.ErrTwice)
	checkWhy(t, "Symbol twice", r.Add(unit("metro", "m", 0)), api.ErrTwice)
	checkWhy(t, "Name twice", r.Add(unit("metre", "me", 0)), api.ErrTwice)
	checkWhy(t, "Symbol as Name", r.Add(unit("m", "me", 0)), api.ErrTwice)
	checkWhy(t, "Name as Symbol", r.Add(unit("me", "metre", 0)), api.ErrTwice)
	checkWhy(t, "Alias", r.Alias("meter", "m"), api.OK)
	checkWhy(t, "Alias as Name", r.Add(unit("meter", "me", 0)), api.ErrTwice)
	checkWhy(t, "Alias as Symbol", r.Add(unit("me", "meter", 0)), api.ErrTwice)
	checkWhy(t, "Keep", r.Keep(light()), api.OK)
	checkWhy(t, "a constant's Name", r.Add(unit("me", "light", 0)), api.ErrTwice)
	checkWhy(t, "a constant's Symbol", r.Add(unit("c", "me", 0)), api.ErrTwice)
	checkWhy(t, "Name and Symbol the same", r.Add(unit("bar", "bar", 3)), api.OK)
	checkWhy(t, "what is read with a prefix is no word", r.Add(unit("km", "kilometre", 0)), api.OK)
	m := &model{units: []api.Unit{metre(), unit("bar", "bar", 3), unit("km", "kilometre", 0)}, aliases: [][]string{{"meter"}, nil, nil}, consts: []api.Const{light()}}
	m.check(t, r, []string{"m", "km", "kbar", "kibar", "Kibar", "me", "c", "light"})
}

// P8.2.
func TestKeep(t *testing.T) {
	r := with(t, metre())
	checkWhy(t, "Keep", r.Keep(light()), api.OK)
	checkWhy(t, "Keep twice", r.Keep(light()), api.ErrTwice)
	checkWhy(t, "Name twice", r.Keep(constant("light", "x")), api.ErrTwice)
	checkWhy(t, "Symbol twice", r.Keep(constant("x", "c")), api.ErrTwice)
	checkWhy(t, "a unit's Name", r.Keep(constant("metre", "x")), api.ErrTwice)
	checkWhy(t, "a unit's Symbol", r.Keep(constant("x", "m")), api.ErrTwice)
	checkWhy(t, "Alias", r.Alias("meter", "m"), api.OK)
	checkWhy(t, "an alias", r.Keep(constant("x", "meter")), api.ErrTwice)
	checkWhy(t, "Name and Symbol the same", r.Keep(constant("pi", "pi")), api.OK)
	m := &model{units: []api.Unit{metre()}, aliases: [][]string{{"meter"}}, consts: []api.Const{light(), constant("pi", "pi")}}
	m.check(t, r, []string{"light", "c", "pi", "x", "m", "meter"})
}

// wrongNames: each of them is no right name.
func wrongNames() []string {
	return []string{"", "in", "2m", "m2-", " m", "m ", "\u00b5m", "\u2126", "m\u00b2", "%%", "a\xff", "\u00b0C1", "\u2032", long(41), "\u212a"}
}

// wrongRats: each of them is not right.
func wrongRats() []api.Rat {
	return []api.Rat{{}, {Num: "2", Den: "4"}, {Num: "1", Den: "0"}, {Num: "01", Den: "1"}, {Num: "-0", Den: "1"}, {Num: "1", Den: "-1"}, {Num: strings.Repeat("1", 601), Den: "1"}, {Num: "x", Den: "1"}, {Num: "0", Den: "3"}}
}

// P8.2: each thing that makes a unit wrong.
func TestWrongUnits(t *testing.T) {
	wrong := func(change func(u *api.Unit)) {
		t.Helper()
		u := metre()
		change(&u)
		r := reg.New()
		checkWhy(t, "Add", r.Add(u), api.ErrForm)
		new(model).check(t, r, []string{"metre", "m"})
	}
	for _, name := range wrongNames() {
		wrong(func(u *api.Unit) { u.Name = name })
		wrong(func(u *api.Unit) { u.Symbol = name })
	}
	for _, q := range wrongRats() {
		wrong(func(u *api.Unit) { u.Factor = q })
		wrong(func(u *api.Unit) { u.Offset, u.Takes = q, api.NoPrefix })
		wrong(func(u *api.Unit) { u.Offset = q })
	}
	wrong(func(u *api.Unit) { u.Factor = rat.Of(0) })
	wrong(func(u *api.Unit) { u.Factor = rat.Of(-1) })
	wrong(func(u *api.Unit) { u.Factor = api.Rat{Num: "-1", Den: "3"} })
	for _, exp := range []int{100, -100, math.MinInt, math.MaxInt} {
		wrong(func(u *api.Unit) { u.Dim[7] = exp })
		wrong(func(u *api.Unit) { u.Dim[0] = exp })
	}
	for _, takes := range []int{-1, 4, 5, math.MinInt, math.MaxInt} {
		wrong(func(u *api.Unit) { u.Takes = takes })
	}
	for _, takes := range []int{api.SiPrefix, api.BinPrefix, api.AnyPrefix, 4} {
		wrong(func(u *api.Unit) { u.Takes, u.Offset = takes, rat.Of(1) })
		wrong(func(u *api.Unit) { u.Takes, u.Offset = takes, api.Rat{Num: "-1", Den: "7"} })
	}
}

// P8.2: the edges of what is right.
func TestRightUnits(t *testing.T) {
	nines := api.Rat{Num: strings.Repeat("9", 600), Den: "1"}
	scale := unit("scale", "\u00b0S", api.NoPrefix)
	scale.Offset = api.Rat{Num: "-" + nines.Num, Den: "2"}
	if scale.Offset.Num = "-" + strings.Repeat("9", 600); !rat.Right(scale.Offset) {
		t.Fatal("the offset is not right")
	}
	large := unit(long(40), "%", api.AnyPrefix)
	large.Factor = nines
	tiny := unit("\u03bc", "'", api.BinPrefix)
	tiny.Factor, tiny.Dim = api.Rat{Num: "1", Den: nines.Num}, api.Dim{99, -99, 99, -99, 99, -99, 99, -99}
	r := reg.New()
	for _, u := range []api.Unit{scale, large, tiny, unit("a", "a", api.NoPrefix), unit("b", "b", api.SiPrefix), unit("d", "d", api.BinPrefix)} {
		checkWhy(t, "Add", r.Add(u), api.OK)
		checkFind(t, r, u.Name, u, api.OK)
		checkFind(t, r, u.Symbol, u, api.OK)
	}
	if !dim.Right(tiny.Dim) {
		t.Error("the dimension is not right")
	}
	checkTexts(t, "Alike", r.Alike(tiny.Dim), "'")
}

// P8.2: each thing that makes a constant wrong, and the edges of what is right.
func TestWrongConsts(t *testing.T) {
	wrong := func(change func(c *api.Const)) {
		t.Helper()
		c := light()
		change(&c)
		r := reg.New()
		checkWhy(t, "Keep", r.Keep(c), api.ErrForm)
		new(model).check(t, r, []string{"light", "c"})
	}
	for _, name := range wrongNames() {
		wrong(func(c *api.Const) { c.Name = name })
		wrong(func(c *api.Const) { c.Symbol = name })
	}
	for _, q := range wrongRats() {
		wrong(func(c *api.Const) { c.Value = q })
		wrong(func(c *api.Const) { c.Spread = q })
	}
	wrong(func(c *api.Const) { c.Spread = rat.Of(-1) })
	wrong(func(c *api.Const) { c.Spread = api.Rat{Num: "-1", Den: "9"} })
	wrong(func(c *api.Const) { c.Unit = "" })
	wrong(func(c *api.Const) { c.Unit = strings.Repeat(" ", 1<<16+1) })
	right := func(change func(c *api.Const)) {
		t.Helper()
		c := light()
		change(&c)
		r := reg.New()
		checkWhy(t, "Keep", r.Keep(c), api.OK)
		checkConst(t, r, c.Name, c, api.OK)
		checkConst(t, r, c.Symbol, c, api.OK)
	}
	right(func(c *api.Const) { c.Unit = strings.Repeat("\xff", 1<<16) })
	right(func(c *api.Const) { c.Unit = "\n" })
	right(func(c *api.Const) { c.Value = rat.Of(0) })
	right(func(c *api.Const) { c.Value, c.Spread = rat.Of(-7), api.Rat{Num: "1", Den: strings.Repeat("9", 600)} })
	right(func(c *api.Const) { c.Name = c.Symbol })
	right(func(c *api.Const) { c.Name, c.Symbol = long(40), "\u00b0" })
}

// P8.2: 512 of each, and room again behind a Drop. Errors in their order.
func TestFull(t *testing.T) {
	r := reg.New()
	for n := range 512 {
		checkWhy(t, "Add", r.Add(unit(numbered(n), "s"+numbered(n), 0)), api.OK)
	}
	other, value := unit("other", "oth", 0), constant("value", "val")
	checkWhy(t, "Add", r.Add(other), api.ErrFull)
	checkWhy(t, "Add twice", r.Add(unit("w0", "oth", 0)), api.ErrTwice)
	checkWhy(t, "Add a wrong one", r.Add(unit("in", "oth", 0)), api.ErrForm)
	for n := range 512 {
		checkWhy(t, "Keep", r.Keep(constant("c"+numbered(n), "d"+numbered(n))), api.OK)
	}
	checkWhy(t, "Keep", r.Keep(value), api.ErrFull)
	checkWhy(t, "Keep twice", r.Keep(constant("val", "w9")), api.ErrTwice)
	checkWhy(t, "Keep a wrong one", r.Keep(constant("val", "in")), api.ErrForm)
	checkFind(t, r, "other", api.Unit{}, api.ErrUnit)
	checkConst(t, r, "value", api.Const{}, api.ErrName)
	if len(r.Units()) != 512 || len(r.Consts()) != 512 || len(r.Words()) != 2048 || len(r.Alike(api.Dim{0, 1})) != 512 {
		t.Error("not 512 of each")
	}
	checkWhy(t, "Drop a constant", r.Drop("dw7"), api.OK)
	checkWhy(t, "Add", r.Add(other), api.ErrFull)
	checkWhy(t, "Keep", r.Keep(value), api.OK)
	checkWhy(t, "Drop a unit", r.Drop("w511"), api.OK)
	checkWhy(t, "Add", r.Add(other), api.OK)
	checkWhy(t, "Add", r.Add(unit("more", "more", 0)), api.ErrFull)
	if l, c := r.Units(), r.Consts(); l[511] != other || c[511] != value || l[510].Name != "w510" || c[7].Name != "cw8" {
		t.Error("what was added last does not stand at the end")
	}
	checkWhy(t, "Alias of a full registry", r.Alias("more", "other"), api.OK)
}

// P8.3.
func TestAlias(t *testing.T) {
	r := with(t, metre(), unit("gram", "g", 1))
	checkWhy(t, "Keep", r.Keep(light()), api.OK)
	for _, name := range wrongNames() {
		checkWhy(t, "a wrong name", r.Alias(name, "m"), api.ErrForm)
		checkWhy(t, "a wrong name of none", r.Alias(name, "none"), api.ErrForm)
	}
	for _, word := range []string{"metre", "m", "gram", "g", "light", "c"} {
		checkWhy(t, "twice", r.Alias(word, "m"), api.ErrTwice)
		checkWhy(t, "twice, of none", r.Alias(word, "none"), api.ErrTwice)
	}
	for _, of := range []string{"", "none", "km", "kilometre", "light", "c", "meter", "in", "\u212a"} {
		checkWhy(t, "of none", r.Alias("meter", of), api.ErrNone)
	}
	checkWhy(t, "of a Name", r.Alias("meter", "metre"), api.OK)
	checkWhy(t, "of a Symbol", r.Alias("mtr", "m"), api.OK)
	checkWhy(t, "of an alias", r.Alias("mt", "meter"), api.OK)
	checkWhy(t, "twice", r.Alias("meter", "g"), api.ErrTwice)
	m := &model{units: r.Units(), aliases: [][]string{{"meter", "mtr", "mt"}, nil}, consts: []api.Const{light()}}
	m.check(t, r, []string{"meter", "mtr", "mt", "kmt", "kilomt", "kmeter", "kilometer", "kilometre", "kmetre", "Kimt", "ug"})
}

// P8.3: 16 of one unit; errors in their order; another unit has its own; room again only with the unit itself.
func TestAliasFull(t *testing.T) {
	r := with(t, metre(), unit("gram", "g", 1))
	for n := range 16 {
		checkWhy(t, "Alias", r.Alias(numbered(n), "m"), api.OK)
	}
	checkWhy(t, "the 17th", r.Alias("more", "m"), api.ErrFull)
	checkWhy(t, "the 17th, by an alias", r.Alias("more", "w3"), api.ErrFull)
	checkWhy(t, "the 17th, wrong", r.Alias("in", "m"), api.ErrForm)
	checkWhy(t, "the 17th, twice", r.Alias("w3", "m"), api.ErrTwice)
	checkFind(t, r, "more", api.Unit{}, api.ErrUnit)
	checkWhy(t, "of another", r.Alias("more", "g"), api.OK)
	for n := range 16 {
		checkFind(t, r, numbered(n), metre(), api.OK)
	}
	checkWhy(t, "Drop", r.Drop("w15"), api.OK)
	checkWhy(t, "Add", r.Add(metre()), api.OK)
	checkWhy(t, "Alias", r.Alias("w0", "m"), api.OK)
	checkTexts(t, "Words", r.Words(), "g", "gram", "m", "metre", "more", "w0")
}

// P8.3, P8.9.
func TestDrop(t *testing.T) {
	r := with(t, metre(), unit("gram", "g", 1), unit("second", "s", 1))
	checkWhy(t, "Keep", r.Keep(light()), api.OK)
	checkWhy(t, "Keep", r.Keep(constant("pi", "pi")), api.OK)
	checkWhy(t, "Alias", r.Alias("meter", "metre"), api.OK)
	for _, word := range []string{"", "km", "none", "in", "\u00b5", "M", "kilometer"} {
		checkWhy(t, "Drop none", r.Drop(word), api.ErrNone)
	}
	checkWhy(t, "Drop", r.Drop("meter"), api.OK)
	checkWhy(t, "Drop again", r.Drop("meter"), api.ErrNone)
	for _, word := range []string{"m", "metre", "meter", "km"} {
		checkFind(t, r, word, api.Unit{}, api.ErrUnit)
	}
	checkWhy(t, "Drop a constant", r.Drop("c"), api.OK)
	checkConst(t, r, "light", api.Const{}, api.ErrName)
	m := &model{units: []api.Unit{unit("gram", "g", 1), unit("second", "s", 1)}, aliases: [][]string{nil, nil}, consts: []api.Const{constant("pi", "pi")}}
	m.check(t, r, []string{"g", "kg", "s", "m", "pi", "c"})
	checkWhy(t, "Add again", r.Add(metre()), api.OK)
	checkWhy(t, "Keep again", r.Keep(light()), api.OK)
	m.units, m.aliases, m.consts = append(m.units, metre()), append(m.aliases, nil), append(m.consts, light())
	m.check(t, r, []string{"g", "m", "km", "meter", "c"})
	checkWhy(t, "Drop one that is called the same twice", r.Drop("pi"), api.OK)
	checkWhy(t, "Drop it again", r.Drop("pi"), api.ErrNone)
}

// P8.4, P8.10.
func TestSeal(t *testing.T) {
	r := with(t, metre())
	checkWhy(t, "Keep", r.Keep(light()), api.OK)
	checkWhy(t, "Seal", r.Seal(), api.OK)
	checkWhy(t, "Seal again", r.Seal(), api.ErrSealed)
	for range 2 {
		checkWhy(t, "Add", r.Add(unit("gram", "g", 1)), api.ErrSealed)
		checkWhy(t, "Add a wrong one", r.Add(api.Unit{}), api.ErrSealed)
		checkWhy(t, "Add twice", r.Add(metre()), api.ErrSealed)
		checkWhy(t, "Keep", r.Keep(constant("pi", "pi")), api.ErrSealed)
		checkWhy(t, "Keep a wrong one", r.Keep(api.Const{}), api.ErrSealed)
		checkWhy(t, "Alias", r.Alias("meter", "m"), api.ErrSealed)
		checkWhy(t, "Alias of none", r.Alias("in", ""), api.ErrSealed)
		checkWhy(t, "Drop", r.Drop("m"), api.ErrSealed)
		checkWhy(t, "Drop none", r.Drop("none"), api.ErrSealed)
	}
	m := &model{units: []api.Unit{metre()}, aliases: [][]string{nil}, consts: []api.Const{light()}, sealed: true}
	m.check(t, r, []string{"m", "km", "meter", "g", "pi", "c"})
	m.sealed = false
	m.check(t, r.Copy(), []string{"m", "km", "meter", "g", "pi", "c"})
	checkWhy(t, "Add to a copy", r.Copy().Add(unit("gram", "g", 1)), api.OK)
}

// P8.4: what is done with the one does nothing to the other, both ways.
func TestCopy(t *testing.T) {
	words := []string{"m", "meter", "km", "g", "s", "c", "pi", "mtr", "gm"}
	r := with(t, metre(), unit("gram", "g", 1))
	checkWhy(t, "Keep", r.Keep(light()), api.OK)
	checkWhy(t, "Alias", r.Alias("meter", "m"), api.OK)
	m := &model{units: r.Units(), aliases: [][]string{{"meter"}, nil}, consts: r.Consts()}
	c := r.Copy()
	n := m.copied()
	m.check(t, c, words)
	checkWhy(t, "Alias", c.Alias("mtr", "meter"), n.alias("mtr", "meter"))
	checkWhy(t, "Drop", r.Drop("g"), m.drop("g"))
	checkWhy(t, "Add", c.Add(unit("second", "s", 1)), n.add(unit("second", "s", 1)))
	checkWhy(t, "Drop", c.Drop("c"), n.drop("c"))
	checkWhy(t, "Alias", r.Alias("gm", "m"), m.alias("gm", "m"))
	checkWhy(t, "Keep", r.Keep(constant("pi", "pi")), m.keep(constant("pi", "pi")))
	m.check(t, r, words)
	n.check(t, c, words)
	checkWhy(t, "Seal", r.Seal(), api.OK)
	n.check(t, c, words)
	checkWhy(t, "Drop", c.Drop("m"), n.drop("m"))
	m.sealed = true
	m.check(t, r, words)
}

// P8.1 to P8.6: of nil.
func TestNil(t *testing.T) {
	var r *reg.Registry
	checkWhy(t, "Add", r.Add(metre()), api.ErrNil)
	checkWhy(t, "Add", r.Add(api.Unit{}), api.ErrNil)
	checkWhy(t, "Keep", r.Keep(light()), api.ErrNil)
	checkWhy(t, "Alias", r.Alias("meter", "m"), api.ErrNil)
	checkWhy(t, "Drop", r.Drop("m"), api.ErrNil)
	checkWhy(t, "Seal", r.Seal(), api.ErrNil)
	checkFind(t, r, "m", api.Unit{}, api.ErrNil)
	checkFind(t, r, "2m", api.Unit{}, api.ErrNil)
	checkConst(t, r, "c", api.Const{}, api.ErrNil)
	checkConst(t, r, "", api.Const{}, api.ErrNil)
	if r.Sealed() || r.Copy() != nil || len(r.Units()) != 0 || len(r.Consts()) != 0 || len(r.Words()) != 0 || len(r.Alike(api.Dim{})) != 0 {
		t.Error("nil answers something")
	}
}

// P8.2 to P8.9: many calls, one behind the other, against the model.
func TestManyCalls(t *testing.T) {
	words := []string{"m", "m", "am", "am", "ilom", "metre", "im", "dam", "x", "in", "2", "\u212a", "K", "c"}
	asked := append([]string{"dam", "kilom", "Mim", "km", "kx", "um", "\u03bcm", "\u00b5m", "kilometre", "mm", "daam", "kibim", "dac"}, words...)
	rnd := rand.New(rand.NewSource(88))
	seen := map[api.Errno]int{}
	word := func() string { return words[rnd.Intn(len(words))] }
	for range 150 {
		r, m := reg.New(), &model{}
		for range 40 {
			var got, want api.Errno
			switch rnd.Intn(12) {
			case 0, 1, 2, 3:
				u := chanceUnit(rnd, words)
				got, want = r.Add(u), m.add(u)
			case 4, 5:
				c := constant(word(), word())
				got, want = r.Keep(c), m.keep(c)
			case 6, 7, 8:
				w, of := word(), word()
				got, want = r.Alias(w, of), m.alias(w, of)
			case 9, 10:
				w := word()
				got, want = r.Drop(w), m.drop(w)
			default:
				old, oldModel := r, m.copied()
				oldModel.sealed = m.sealed
				r, m = r.Copy(), m.copied()
				oldModel.check(t, old, words[:3])
			}
			seen[got]++
			checkWhy(t, "a call", got, want)
			m.check(t, r, asked)
			for _, w := range asked[:8] {
				if u, e := r.Find(w); e != api.OK {
					seen[e]++
				} else if u.Name != w && u.Takes == api.NoPrefix {
					seen[-1]++
				}
			}
		}
	}
	for _, e := range []api.Errno{api.OK, api.ErrForm, api.ErrTwice, api.ErrNone, api.ErrUnit, api.ErrMixed, -1} {
		if seen[e] < 20 {
			t.Error("too few of", e, seen)
		}
	}
}
