package decl_test

import (
	"math/rand"
	"slices"
	"strings"
	"sync"
	"testing"

	"cubit/api"
	"cubit/decl"
	"cubit/house"
	"cubit/rat"
)

// P17.2, P17.3: the chapter's examples, and a line of each kind.
func TestParse(t *testing.T) {
	newton := api.Decl{Kind: api.DUnit, Name: "newton", Symbol: "N", Factor: rat.Of(1), Takes: api.SiPrefix, Parts: []api.Part{{Name: "kg", Exp: 1}, {Name: "m", Exp: 1}, {Name: "s", Exp: -2}}}
	celsius := api.Decl{Kind: api.DScale, Name: "celsius", Symbol: "degC", Factor: rat.Of(1), Offset: api.Rat{Num: "5463", Den: "20"}, Of: "kelvin"}
	checkParse(t, "unit newton N 1 si kg m s^-2\n", []api.Decl{newton}, api.OK, 0)
	checkParse(t, "scale celsius degC 1 273.15 kelvin\n", []api.Decl{celsius}, api.OK, 0)
	checkPrint(t, []api.Decl{newton, celsius}, "unit newton N 1 si kg m s^-2\nscale celsius degC 1 5463/20 kelvin\n", api.OK, 0)
	checkPrint(t, nil, "", api.OK, 0)
	for place, letter := range "LMTIHNJB" {
		d := api.Decl{Kind: api.DBase, Name: "metre", Symbol: "m", Factor: rat.Of(1000), Takes: api.AnyPrefix}
		d.Dim[place] = 1
		checkParse(t, "base metre m "+string(letter)+" 1e3 any", []api.Decl{d}, api.OK, 0)
		checkPrint(t, []api.Decl{d}, "base metre m "+string(letter)+" 1000 any\n", api.OK, 0)
	}
	for takes, word := range []string{"none", "si", "binary", "any"} {
		d := api.Decl{Kind: api.DUnit, Name: "n", Symbol: "%", Factor: number(t, "0.01"), Takes: takes}
		checkParse(t, "unit n % 1/100 "+word, []api.Decl{d}, api.OK, 0)
		checkPrint(t, []api.Decl{d}, "unit n % 1/100 "+word+"\n", api.OK, 0)
	}
	checkParse(t, "alias \u03bc micro", []api.Decl{{Kind: api.DAlias, Name: "\u03bc", Of: "micro"}}, api.OK, 0)
	kibi := api.Decl{Kind: api.DPrefix, Name: "kibi", Symbol: "Ki", Factor: rat.Of(1024), Takes: api.BinPrefix}
	checkParse(t, "prefix kibi Ki 1024 binary", []api.Decl{kibi}, api.OK, 0)
	charge := api.Decl{Kind: api.DConst, Name: "c", Symbol: "e", Factor: number(t, "-1/7"), Spread: rat.Of(0), Parts: []api.Part{{Name: "m", Exp: 99}, {Name: "m", Exp: -99}}}
	checkParse(t, "const c e -2/14 0.0 m^99 m^-0099", []api.Decl{charge}, api.OK, 0)
	checkPrint(t, []api.Decl{charge, kibi}, "const c e -1/7 0 m^99 m^-99\nprefix kibi Ki 1024 binary\n", api.OK, 0)
}

// P17.2: what a line is, and what a word is.
func TestLines(t *testing.T) {
	a := api.Decl{Kind: api.DAlias, Name: "a", Of: "b"}
	one, two := []api.Decl{a}, []api.Decl{a, a}
	for text, want := range map[string][]api.Decl{
		"":                                  nil,
		"\n":                                nil,
		" \t \n\t":                          nil,
		"#":                                 nil,
		"#alias a b\n # x\n\t#\n##":         nil,
		"alias a b":                         one,
		"alias a b\n":                       one,
		"\n\nalias a b\n\n":                 one,
		" \talias\t\ta \t b\t ":             one,
		"alias a b\nalias a b":              two,
		"alias a b\n#\nalias a b\n":         two,
		"# \xff\x00\r\nalias a b\n#\u00e9x": one,
	} {
		checkParse(t, text, want, api.OK, 0)
	}
	for _, c := range []struct {
		text  string
		why   api.Errno
		place int
	}{
		{"alias a b #", api.ErrLine, 0}, {"alias a #", api.ErrName, 0}, {"alias a b\r\n", api.ErrName, 0}, {"\r\n", api.ErrLine, 0}, {"\nalias a\u00a0b", api.ErrLine, 1}, {"alias a b\valias", api.ErrName, 0}, {"\x00", api.ErrLine, 0}, {"\n\n \n\xff", api.ErrLine, 3}, {"#\n#\nalias a b\nx\ny", api.ErrLine, 3}, {"alias a b\n\nalias a in", api.ErrName, 2},
		{"Alias a b", api.ErrLine, 0}, {"ALIAS a b", api.ErrLine, 0}, {"alias", api.ErrLine, 0}, {"units x\n", api.ErrLine, 0}, {"alias a a b", api.ErrLine, 0}, {"# x\nbase a b L 0 none\n", api.ErrZero, 1}, {"alias a\nb", api.ErrLine, 0}, {"'alias' a b", api.ErrLine, 0},
	} {
		checkParse(t, c.text, nil, c.why, c.place)
	}
}

// P17.2: too few and too many words, at each kind.
func TestHowManyWords(t *testing.T) {
	for _, c := range []struct {
		line  string
		parts bool
	}{
		{"base a b L 1 none", false}, {"unit a b 1 none", true}, {"scale a b 1 2 c", false}, {"alias a b", false}, {"prefix a b 1 si", false}, {"const a b 1 2", true},
	} {
		words := strings.Fields(c.line)
		for n := 1; n < len(words); n++ {
			checkParse(t, strings.Join(words[:n], " "), nil, api.ErrLine, 0)
		}
		if _, e, at := decl.Parse(c.line); e != api.OK || at != 0 {
			t.Error(c.line, e, at)
		}
		for n := 1; n < 70; n++ {
			_, e, _ := decl.Parse(c.line + strings.Repeat(" m", n))
			want := api.OK
			switch {
			case !c.parts:
				want = api.ErrLine
			case n > 64:
				want = api.ErrSize
			}
			if e != want {
				t.Errorf("%s and %d parts: %d, not %d", c.line, n, e, want)
			}
		}
	}
}

// P17.2: of several faults of a line the one that is named first.
func TestFirstFault(t *testing.T) {
	nines := strings.Repeat("9", 601)
	for text, why := range map[string]api.Errno{
		"base in in LL x y":               api.ErrLine,
		"base in in L x none":             api.ErrForm,
		"base in in l 1 none":             api.ErrLine,
		"base in in 1 1 none":             api.ErrLine,
		"base in in L^1 1 none":           api.ErrLine,
		"base in in L/T 1 none":           api.ErrLine,
		"base in in LM 1 none":            api.ErrLine,
		"base in in L x None":             api.ErrLine,
		"base in in L 1/0 0":              api.ErrLine,
		"base in in L 1/0 none":           api.ErrZero,
		"base in in L 0 none":             api.ErrName,
		"base a in L 0 none":              api.ErrName,
		"base a b L 0 none":               api.ErrZero,
		"base a b L -1 none":              api.ErrBelow,
		"base a b L " + nines + " none":   api.ErrLarge,
		"base a b L 1/" + nines + " none": api.ErrLarge,
		"base a b L 1e600 none":           api.ErrLarge,
		"base a b L 0e4097 none":          api.ErrLarge,
		"base a b L 1e599 none":           api.OK,
		"base a b L 2/2 none":             api.OK,
		"base a b L +1 none":              api.ErrForm,
		"base a b L 1. none":              api.ErrForm,
		"base a b L 1(2) none":            api.ErrForm,
		"prefix a b 1 none":               api.ErrArg,
		"prefix a b 1 any":                api.ErrArg,
		"prefix a b 0 any":                api.ErrZero,
		"prefix a b 1 0":                  api.ErrLine,
		"scale a b 1/0 x in":              api.ErrZero,
		"scale a b x 1/0 in":              api.ErrForm,
		"scale a b 1 1/0 in":              api.ErrZero,
		"scale a b 0 1 in":                api.ErrName,
		"scale a b 0 1 c":                 api.ErrZero,
		"scale a b -1 0 c":                api.ErrBelow,
		"const a b 0 -1 in^x":             api.ErrForm,
		"const a b 1/0 x m^":              api.ErrZero,
		"const a b 0 1e999 m^":            api.ErrLarge,
		"const a b 0 -1 m^0":              api.ErrBelow,
		"const a b 0 0 m^0":               api.ErrExp,
		"const a b -1 0":                  api.OK,
		"unit a b x si m^":                api.ErrForm,
		"unit a b 1/0 si m^":              api.ErrZero,
		"unit a b 1/0 SI m^":              api.ErrLine,
		"unit in b 0 si m^":               api.ErrForm,
		"unit in b 0 si m^0":              api.ErrName,
		"unit a b 0 si m^0":               api.ErrZero,
		"unit a b 1 si m^0":               api.ErrExp,
		"unit a b 1 si m^-0":              api.ErrExp,
		"unit a b 1 si m^0 in":            api.ErrName,
		"unit a b 1 si m^0 in^x":          api.ErrForm,
		"unit a b 1 si m^100":             api.ErrExp,
		"unit a b 1 si m^-100":            api.ErrExp,
		"unit a b 1 si m^" + nines:        api.ErrExp,
		"unit a b 1 si m^-" + nines:       api.ErrExp,
		"unit a b 1 si m^00000000000000000000000000000000000000000000000000000000000000000001": api.OK,
		"unit a b 1 si m^18446744073709551617":                                                 api.ErrExp,
		"unit a b 1 si m^+1":                                                                   api.ErrForm,
		"unit a b 1 si m^--1":                                                                  api.ErrForm,
		"unit a b 1 si m^-":                                                                    api.ErrForm,
		"unit a b 1 si m^1^1":                                                                  api.ErrForm,
		"unit a b 1 si m^^1":                                                                   api.ErrForm,
		"unit a b 1 si ^1":                                                                     api.ErrName,
		"unit a b 1 si ^":                                                                      api.ErrForm,
		"unit a b 1 si m^1.0":                                                                  api.ErrForm,
		"unit a b 1 si m^\u0661":                                                               api.ErrForm,
		"unit a b 1 si m^1\xff":                                                                api.ErrForm,
		"unit a b 1 si m\u00b2":                                                                api.ErrName,
		"unit a b 1 si m2":                                                                     api.OK,
		"unit a b 1 si m*s":                                                                    api.ErrName,
		"unit \u00b5 b 1 si":                                                                   api.ErrName,
		"unit a b 1 si \u00b5":                                                                 api.ErrName,
		"unit a " + strings.Repeat("b", 41) + " 1 si":                                          api.ErrName,
	} {
		_, e, at := decl.Parse(text)
		if e != why || at != 0 {
			t.Errorf("Parse(%.80q) = %d, %d, not %d", text, e, at, why)
		}
		want, e, at := reading(text)
		checkParse(t, text, want, e, at)
	}
}

// mixed: lines of words that belong there, some of them taken for others.
func mixed(r *rand.Rand) string {
	var s strings.Builder
	for range r.Intn(5) {
		words := strings.Fields(pick(r, "base a b L 1 none", "unit a b 1 any m s^-2", "unit ab % 2/3 si", "scale a b 1 -2.5e1 c", "alias \u03a9 b", "prefix a b 1 si", "prefix a b 1024 binary", "const a b -1 2 m^2", "const a b 0 0", "# x", "#", "", "x"))
		for range r.Intn(3) {
			if len(words) > 0 {
				words[r.Intn(len(words))] = pick(r, "base", "unit", "const", "a", "in", "L", "B", "l", "1", "0", "-1", "1/0", "0.10", "x", "none", "si", "any", "m^-3", "m^0", "m^100", "m^", "^2", "#", "\xff", "\u00b5", "m^-099", "1e4097", "m^2^2", "\r")
			}
		}
		switch r.Intn(8) {
		case 0:
			words = append(words, pick(r, "m", "a", "1", "s^2", "s^", "#"))
		case 1:
			words = words[:max(0, len(words)-1)]
		}
		s.WriteString(pick(r, "", "", "", " ", "\t"))
		for i, word := range words {
			if i > 0 {
				s.WriteString(pick(r, " ", " ", " ", "\t", "  "))
			}
			s.WriteString(word)
		}
		s.WriteString(pick(r, "\n", "\n", "\n", " \n", "\n\n", "\t", ""))
	}
	return s.String()
}

// P17.2, P17.5.
func TestReading(t *testing.T) {
	r := rand.New(rand.NewSource(173))
	read := 0
	for range 60000 {
		text := mixed(r)
		want, why, place := reading(text)
		checkParse(t, text, want, why, place)
		if why != api.OK {
			continue
		}
		read += len(want)
		told, e, at := decl.Print(want)
		if e != api.OK || at != 0 || strings.Count(told, "\n") != len(want) {
			t.Errorf("Print(%s) = %s, %d, %d", short(want), short(told), e, at)
		}
		checkParse(t, told, want, api.OK, 0)
	}
	if read < 5000 {
		t.Error("only", read, "declarations were right")
	}
}

// P17.4: there and back; and a printed line has one blank between two words.
func TestThereAndBack(t *testing.T) {
	r := rand.New(rand.NewSource(174))
	for range 400 {
		var l []api.Decl
		for range r.Intn(12) {
			l = append(l, chance(r))
		}
		text, e, at := decl.Print(l)
		if len(text) > api.MaxText {
			t.Fatal(len(text))
		}
		if e == api.ErrSize {
			continue
		}
		if e != api.OK || at != 0 {
			t.Fatal(short(l), e, at)
		}
		checkParse(t, text, l, api.OK, 0)
		again, e, at := decl.Print(l)
		if again != text || e != api.OK || at != 0 {
			t.Error("another text:", short(again))
		}
		for line := range strings.Lines(text) {
			if strings.Join(strings.Fields(line), " ")+"\n" != line {
				t.Errorf("%.200q", line)
			}
		}
	}
}

// P17.6: texts behind one another.
func TestBehindOneAnother(t *testing.T) {
	r := rand.New(rand.NewSource(176))
	for range 5000 {
		first, second := mixed(r)+"\n", mixed(r)+"\n"
		a, e, at := decl.Parse(first)
		if e != api.OK {
			checkParse(t, first+second, nil, e, at)
			continue
		}
		b, e, at := decl.Parse(second)
		if e != api.OK {
			checkParse(t, first+second, nil, e, at+strings.Count(first, "\n"))
			continue
		}
		checkParse(t, first+second, slices.Concat(a, b), api.OK, 0)
	}
}

// P17.3: the first that is not right, by its number; that goes ahead of the size.
func TestPrintFaults(t *testing.T) {
	right := sample(api.DAlias)
	for at := range 5 {
		for _, f := range faults() {
			l := []api.Decl{right, right, right, right, right}
			l[at] = sample(api.DUnit)
			f.make(&l[at])
			e := rightness(l[at])
			if e == api.OK {
				t.Fatal(short(l[at]))
			}
			checkPrint(t, l, "", e, at)
			if at < 4 {
				l[4].Kind = 0
				checkPrint(t, l, "", e, at)
			}
		}
	}
	many := slices.Repeat([]api.Decl{right}, 20000)
	checkPrint(t, many, "", api.ErrSize, 0)
	many[19999].Name = ""
	checkPrint(t, many, "", api.ErrName, 19999)
}

// P17.2, P17.3: texts of MaxText bytes, and of one more.
func TestSizes(t *testing.T) {
	l := slices.Repeat([]api.Decl{{Kind: api.DAlias, Name: "abc", Of: "abcde"}}, api.MaxText/16)
	text := strings.Repeat("alias abc abcde\n", api.MaxText/16)
	checkPrint(t, l, text, api.OK, 0)
	checkParse(t, text, l, api.OK, 0)
	l[0].Of = "abcdef"
	checkPrint(t, l, "", api.ErrSize, 0)
	checkParse(t, text+"\n", nil, api.ErrSize, 0)
	checkParse(t, "x\n"+text, nil, api.ErrSize, 0)
	checkParse(t, strings.Repeat("\n", api.MaxText), nil, api.OK, 0)
	checkParse(t, strings.Repeat("\n", api.MaxText-1)+"x", nil, api.ErrLine, api.MaxText-1)
	checkParse(t, strings.Repeat("\n", api.MaxText+1), nil, api.ErrSize, 0)
	checkParse(t, strings.Repeat("x", api.MaxText), nil, api.ErrLine, 0)
	checkParse(t, "unit a b 1 si"+strings.Repeat(" m", (api.MaxText-13)/2), nil, api.ErrSize, 0)
	checkParse(t, "unit a b 1 si m^-"+strings.Repeat("0", api.MaxText-18)+"2", []api.Decl{{Kind: api.DUnit, Name: "a", Symbol: "b", Factor: rat.Of(1), Takes: 1, Parts: []api.Part{{Name: "m", Exp: -2}}}}, api.OK, 0)
	checkParse(t, "prefix a b "+strings.Repeat("0", api.MaxText-15)+"2 si", []api.Decl{{Kind: api.DPrefix, Name: "a", Symbol: "b", Factor: rat.Of(2), Takes: 1}}, api.OK, 0)
	checkParse(t, "base a b "+strings.Repeat("L ", 30000), nil, api.ErrLine, 0)
	checkParse(t, "base a b "+strings.Repeat("L", 60000)+" 1 si", nil, api.ErrLine, 0)
}

// P7, of declarations: those of the own house, printed and read again, make that house.
func TestOwnHouse(t *testing.T) {
	l := house.Decls()
	text, e, at := decl.Print(l)
	if e != api.OK || at != 0 {
		t.Fatal(e, at)
	}
	checkParse(t, text, l, api.OK, 0)
	again, _, _ := decl.Parse(text)
	h, e, at := house.Build(again)
	own, _ := house.Own()
	if e != api.OK || at != 0 || !slices.Equal(h.Units(), own.Units()) || !slices.Equal(h.Consts(), own.Consts()) || !slices.Equal(h.Prefixes(), own.Prefixes()) {
		t.Error("another house", e, at)
	}
	for _, part := range []string{"prefix kilo k 1000 si\n", "base metre m L 1 si\n", "unit newton N 1 si m kg s^-2\n"} {
		if !strings.Contains(text, part) {
			t.Errorf("%q is not told", part)
		}
	}
}

// Rule 5: what is given stays, and what is answered is new.
func TestListsAreNew(t *testing.T) {
	text := "unit a b 1 si m s^2\nunit c d 1 si m s^2\n"
	first, _, _ := decl.Parse(text)
	for i := range first {
		first[i].Name = "?"
		first[i].Parts[0].Name = "?"
		_ = append(first[i].Parts, api.Part{Name: "?"})
	}
	want := []api.Decl{
		{Kind: api.DUnit, Name: "a", Symbol: "b", Factor: rat.Of(1), Takes: 1, Parts: []api.Part{{Name: "m", Exp: 1}, {Name: "s", Exp: 2}}},
		{Kind: api.DUnit, Name: "c", Symbol: "d", Factor: rat.Of(1), Takes: 1, Parts: []api.Part{{Name: "m", Exp: 1}, {Name: "s", Exp: 2}}},
	}
	checkParse(t, text, want, api.OK, 0)
	room := append(slices.Clone(want), sample(api.DBase), sample(api.DScale))
	checkPrint(t, room[:2], text, api.OK, 0)
	if !sameAll(room, append(want, sample(api.DBase), sample(api.DScale))) {
		t.Error("what was given has changed")
	}
	wrong := []api.Decl{want[0], {}}
	checkPrint(t, wrong[:1], "unit a b 1 si m s^2\n", api.OK, 0)
}

// Rule 6: at one time, too.
func TestAtOneTime(t *testing.T) {
	l := house.Decls()
	text, _, _ := decl.Print(l)
	var all sync.WaitGroup
	for range 8 {
		all.Go(func() {
			for range 5 {
				checkParse(t, text, l, api.OK, 0)
				checkPrint(t, l, text, api.OK, 0)
			}
		})
	}
	all.Wait()
}
