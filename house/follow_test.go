package house_test

import (
	"math/rand"
	"slices"
	"strings"
	"testing"
	"time"

	"cubit/api"
	"cubit/house"
	"cubit/rat"
	"cubit/reg"
)

// some: one of these words.
func some(r *rand.Rand, words string) string {
	l := strings.Fields(words)
	return l[r.Intn(len(l))]
}

// Words that meet one another when they are put behind others.
const (
	unitWords   = "m am bc abc c b ab s x y z w v t"
	prefixWords = "k ka d da a j ja u \u03bc mic"
)

func drawnNumber(r *rand.Rand) string {
	if r.Intn(12) == 0 {
		return some(r, ten(599)+" 1/"+ten(599)+" "+ten(300)+" 1/"+ten(300)+" 9"+ten(300))
	}
	return some(r, "1 2 3 1/2 1/1000 1000 5/9 7")
}

// drawing: a small list of declarations that is drawn, at which something may be wrong.
type drawing struct {
	r               *rand.Rand
	words, prefixes []string // those that are left
	units, ahead    []string // words of units, and prefixes, that stand in the list
}

func newDrawing(r *rand.Rand) *drawing {
	shuffled := func(s string) []string {
		l := strings.Fields(s)
		r.Shuffle(len(l), func(i, j int) { l[i], l[j] = l[j], l[i] })
		return l
	}
	if r.Intn(3) == 0 {
		return &drawing{r: r, words: shuffled("m am bc abc x y"), prefixes: shuffled("d da k ka")}
	}
	return &drawing{r: r, words: shuffled(unitWords), prefixes: shuffled(prefixWords)}
}

// fresh: a word that is left, and stands in a list from now on; now and then it is left again.
func (d *drawing) fresh(left, there *[]string) string {
	word := (*left)[0]
	if d.r.Intn(40) > 0 {
		*left = (*left)[1:]
	}
	*there = append(*there, word)
	return word
}

func (d *drawing) unit() string {
	return d.fresh(&d.words, &d.units) + " " + d.fresh(&d.words, &d.units)
}

func (d *drawing) named() string {
	if d.r.Intn(25) == 0 || len(d.units) == 0 {
		return some(d.r, unitWords)
	}
	word := d.units[d.r.Intn(len(d.units))]
	if d.r.Intn(3) == 0 && len(d.ahead) > 0 {
		word = d.ahead[d.r.Intn(len(d.ahead))] + word
	}
	return word
}

func (d *drawing) parts() string {
	text := ""
	for range d.r.Intn(4) {
		text += " " + d.named() + some(d.r, "^1 ^1 ^1 ^2 ^-1 ^-2 ^3 ^50 ^-99")
	}
	return text
}

// line: a declaration; where an @ stands, words are put in later, as they may be declared behind it.
func (d *drawing) line(letter string) string {
	takes := " " + some(d.r, "none si any any binary")
	switch kind := d.r.Intn(16); {
	case kind < 3 && letter != "":
		return "base " + d.unit() + " " + letter + " " + drawnNumber(d.r) + takes
	case kind < 8:
		return "unit " + d.unit() + " " + drawnNumber(d.r) + takes + " @parts"
	case kind < 9:
		return "scale " + d.unit() + " " + drawnNumber(d.r) + " " + some(d.r, "0 0 5 -2 1/"+ten(400)) + " @named"
	case kind < 11:
		return "alias " + d.fresh(&d.words, &d.units) + " @named"
	case kind < 15:
		d.ahead = append(d.ahead, "u")
		return "prefix " + d.fresh(&d.prefixes, &d.ahead) + " " + d.fresh(&d.prefixes, &d.ahead) + " " + some(d.r, "2 10 1000 1/10 1/1000 1024") + " " + some(d.r, "si si binary")
	}
	var none []string
	return "const " + d.fresh(&d.words, &none) + " " + d.fresh(&d.words, &none) + " -5/3 " + some(d.r, "0 1") + " @parts"
}

func drawn(t *testing.T, r *rand.Rand) []api.Decl {
	d := newDrawing(r)
	letters := strings.Split("L M T H", " ")
	var lines []string
	for range 2 + r.Intn(6) {
		if len(d.words) < 2 || len(d.prefixes) < 2 {
			break
		}
		line := d.line(append(letters, "")[0])
		if strings.HasPrefix(line, "base") {
			letters = letters[1:]
		}
		lines = append(lines, line)
	}
	for i, line := range lines {
		lines[i] = strings.NewReplacer("@parts", d.parts(), "@named", d.named()).Replace(line)
	}
	r.Shuffle(len(lines), func(i, j int) { lines[i], lines[j] = lines[j], lines[i] })
	return decls(t, strings.Join(lines, "\n"))
}

// allWords: those of a list, alone and with prefixes, and some others.
func allWords(l []api.Decl) []string {
	words, ahead := []string{"", "q", "in", "2"}, []string{"", "u", "\u00b5"}
	for _, d := range l {
		if d.Kind == api.DPrefix {
			ahead = append(ahead, d.Name, d.Symbol)
		} else {
			words = append(words, d.Name, d.Symbol)
		}
	}
	var all []string
	for _, a := range ahead {
		for _, w := range words {
			all = append(all, a+w)
		}
	}
	return all
}

// P16.2, P16.5, P3: against the chapter in its own words; and what follows.
func TestModel(t *testing.T) {
	r := rand.New(rand.NewSource(16))
	count := map[api.Errno]int{}
	for range 20000 {
		l := drawn(t, r)
		m := model{l}
		e, at := m.build()
		count[e]++
		checkBuild(t, l, e, at)
		if e == api.OK {
			h := built(t, l)
			checkModel(t, m, h)
			checkFollows(t, r, l, h)
		}
		if t.Failed() {
			break
		}
	}
	for _, e := range []api.Errno{api.OK, api.ErrTwice, api.ErrUnit, api.ErrMixed, api.ErrCycle, api.ErrAffine, api.ErrExp, api.ErrLarge} {
		if count[e] < 10 {
			t.Errorf("error %d: only %d times", e, count[e])
		}
	}
}

func checkModel(t *testing.T, m model, h *house.House) {
	t.Helper()
	var units []api.Unit
	for i, d := range m.l {
		if m.isUnit(i) {
			u, _ := m.unit(d.Symbol)
			units = append(units, u)
		}
	}
	if !slices.Equal(h.Units(), units) {
		t.Errorf("Units() = %s, not %s", short(h.Units()), short(units))
	}
	for _, word := range allWords(m.l) {
		u, e := m.unit(word)
		checkUnit(t, h, word, u, e)
	}
}

// checkFollows: P16.8 to P16.11.
func checkFollows(t *testing.T, r *rand.Rand, l []api.Decl, h *house.House) {
	t.Helper()
	checkClosed(t, h)
	if ills := h.Health(); len(ills) != 0 {
		t.Error(ills)
	}
	words := allWords(l)
	for _, word := range words {
		if u, e := h.Unit(word); e == api.OK {
			u.Name, u.Symbol = "a", "b"
			if e := reg.New().Add(u); e != api.OK {
				t.Errorf("%s is not right: %s", word, short(u))
			}
		}
	}
	m := model{l}
	// P16.9: in another order, of which no order is told.
	other := slices.Clone(l)
	r.Shuffle(len(other), func(i, j int) { other[i], other[j] = other[j], other[i] })
	checkAlike(t, h, built(t, other), words)
	// P16.10: without one.
	for i, d := range l {
		leaned := false
		for j := range l {
			leaned = leaned || slices.Contains(m.all(j), i)
		}
		if leaned || d.Kind == api.DPrefix {
			continue
		}
		less := slices.Delete(slices.Clone(l), i, i+1)
		var left []string
		for _, d := range less {
			if d.Kind != api.DPrefix {
				left = append(left, model{[]api.Decl{d}}.brings(0)...)
			}
		}
		checkAlike(t, h, built(t, less), left)
	}
}

// checkAlike: two houses answer the same to these words.
func checkAlike(t *testing.T, a, b *house.House, words []string) {
	t.Helper()
	for _, word := range words {
		u, e := a.Unit(word)
		checkUnit(t, b, word, u, e)
		c, e := a.Const(word)
		checkConst(t, b, word, c, e)
		x, e := a.Convert(rat.Of(3), word, words[0])
		checkConvert(t, b, rat.Of(3), word, words[0], x, e)
	}
}

// Declarations that are not right in themselves, against the chapter in its own words.
func TestModelForm(t *testing.T) {
	r := rand.New(rand.NewSource(17))
	texts := []string{"", "m", "a", "in", "2", "\u00b5", strings.Repeat("x", 41)}
	rats := []api.Rat{{}, {Num: "1", Den: "1"}, {Num: "0", Den: "1"}, {Num: "-1", Den: "2"}, {Num: "2", Den: "4"}, {Num: "1"}, {Num: ten(600), Den: "1"}}
	dims := []api.Dim{{}, {1}, {0, 1}, {1, 1}, {2}, {-1}, {100}}
	parts := [][]api.Part{nil, {}, {{Name: "m", Exp: 1}}, {{Name: "m"}}, {{Name: "m", Exp: 100}}, {{Name: "in", Exp: 1}}}
	all := decls(t, "base metre m L 1 si\nunit foo fo 2 any m^2\nscale sc sc 2 -3 m\nalias al m\nprefix kilo k 1000 si\nconst co co -1 0 m")
	right, wrong := 0, 0
	for range 20000 {
		d := all[r.Intn(len(all))]
		for range r.Intn(4) {
			switch r.Intn(10) {
			case 0:
				d.Kind = r.Intn(9) - 1
			case 1:
				d.Name = texts[r.Intn(len(texts))]
			case 2:
				d.Symbol = texts[r.Intn(len(texts))]
			case 3:
				d.Of = texts[r.Intn(len(texts))]
			case 4:
				d.Factor = rats[r.Intn(len(rats))]
			case 5:
				d.Offset = rats[r.Intn(len(rats))]
			case 6:
				d.Spread = rats[r.Intn(len(rats))]
			case 7:
				d.Dim = dims[r.Intn(len(dims))]
			case 8:
				d.Parts = parts[r.Intn(len(parts))]
			case 9:
				d.Takes = r.Intn(6) - 1
			}
		}
		h, e, at := house.Build([]api.Decl{d})
		if want := (model{[]api.Decl{d}}).form(0); (want == api.ErrForm) != (e == api.ErrForm) || at != 0 || (h != nil) != (e == api.OK) {
			t.Fatalf("%+v: %d, not %d", d, e, want)
		}
		if e == api.ErrForm {
			wrong++
		} else {
			right++
		}
	}
	if right < 1000 || wrong < 1000 {
		t.Error(right, wrong)
	}
}

// Rule 1: at the limits it ends soon, however great the numbers are on the way.
func TestGreat(t *testing.T) {
	began := time.Now()
	text := strings.Builder{}
	text.WriteString("unit " + named(0) + " " + named(0) + " " + strings.Repeat("7", 599) + "/" + ten(599) + " none\n")
	for n := 1; n < 512; n++ {
		text.WriteString("unit " + named(n) + " " + named(n) + " 1 none")
		for k := range 32 {
			ahead := named(max(n-1-k, 0))
			text.WriteString(" " + ahead + "^99 " + ahead + "^-" + some(rand.New(rand.NewSource(int64(n*k))), "99 98 99 99"))
		}
		text.WriteString("\n")
	}
	l := decls(t, text.String())
	if _, e, _ := house.Build(l); e != api.OK && e != api.ErrLarge {
		t.Error(e)
	}
	// A long chain, told from its end.
	chain := "unit a0 a0 2 none\n"
	for n := 1; n < 512; n++ {
		chain = "unit a" + named(n) + " b" + named(n) + " 1 none " + map[bool]string{true: "a0", false: "c" + named(n-1)}[n == 1] + "\nalias c" + named(n) + " b" + named(n) + "\n" + chain
	}
	h := built(t, decls(t, chain))
	checkUnit(t, h, "cn511", unit(t, "an511 bn511 2 0 0", "1"), api.OK)
	// All lean on all ahead of them, and the first one on the last one.
	ring := strings.Builder{}
	for n := range 512 {
		ring.WriteString("unit " + named(n) + " " + named(n) + " 1 none")
		for k := range 64 {
			ring.WriteString(" " + named((n+511-k)%512))
		}
		ring.WriteString("\n")
	}
	checkText(t, ring.String(), api.ErrCycle, 0)
	if took := time.Since(began); took > 30*time.Second {
		t.Error("too slow:", took)
	}
}
