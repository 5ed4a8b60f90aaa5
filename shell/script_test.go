package shell_test

import (
	"math/rand"
	"strconv"
	"strings"
)

// expression: one that comes to something, most often.
func expression(r *rand.Rand) string {
	if r.Intn(4) > 0 {
		return pick(r, "a", "b", "a + b", "a * b", "a - a", "a^2", "1.0(1) + a", "2.50(5) m", "2.5(1) m + 3 ft", "5 km / (2 s)", "72 km/h in m/s", "20 degC", "20 degC in degF", "light", "electron * light^2", "sqrt(a)", "abs(-b)", "1/3", "a / b", "b^-1", "3 min + 1.0(2) s", "0", "1e30", "\u00b5m", "5(3)e-9 s", "m", "fo", "3 fo", "pi")
	}
	return pick(r, "1 m + 1 s", "a +", ")", "1 / (a - a)", "foo", "1e600", "sqrt(-1)", "sqrt(2 m)", "a b c d", "2 * 20 degC", "1 ; 2", "x^99999", "1e400", "a in b", "5 m in s", strings.Repeat("(", 200)+"1"+strings.Repeat(")", 200))
}

func blank(r *rand.Rand) string { return pick(r, " ", " ", " ", "\t", "  ", " \t ") }

// rarely: another thing than a usual one.
func rarely(r *rand.Rand, usual string, l ...string) string {
	if r.Intn(8) > 0 {
		return usual
	}
	return pick(r, l...)
}

func name(r *rand.Rand) string {
	return rarely(r, pick(r, "a", "b", "c", "\u00b5"), "\u03bc", "K", "in", "2x", "x1", strings.Repeat("y", 41), "m")
}

func number(r *rand.Rand) string {
	return rarely(r, strconv.Itoa(r.Intn(6)), "05", "9", "-1", "x", "1.0", "1234567890", "1000001", "", "-000000001")
}

func unit(r *rand.Rand) string {
	return rarely(r, pick(r, "m", "m", "km", "s", "foo"), "degC", "K", "fo", "m / s", "km\t/  h", "foo", ")", "m^2", "2 m", "m + m", "", "metre", "\u00b5m")
}

// declaration: of a house of few units, one of them faulty now and then.
func declaration(r *rand.Rand) string {
	return pick(r, "base metre m L 1 si", "base second s T 1 none", "base kelvin K H 1 none", "prefix kilo k 1000 si", "unit foo fo 2 none m", "unit bar ba 3 none foo s", "scale celsius degC 1 273.15 K", "const pi pie 22/7 1/700", "# nothing", "alias meter m", "const light clight 5 1/10 m s^-1", "unit loop lo 1 none loop", "base x", "unit none none 0 none m")
}

// line: of any command, right or wrong.
func line(r *rand.Rand) string {
	words := pick(r,
		[]string{"let", name(r), "=", expression(r)}, []string{"let", name(r), "=", expression(r)}, []string{"let", name(r), "=", expression(r)}, []string{"let", name(r), pick(r, "=", "==", ""), expression(r)}, []string{"drop", name(r)}, []string{"vars"}, []string{"exact", expression(r)}, []string{"float", expression(r)}, []string{"spread", expression(r)}, []string{"spread", expression(r)}, []string{"budget", expression(r)}, []string{"dim", expression(r)}, []string{"show", number(r), unit(r), expression(r)}, []string{"best", number(r), unit(r), expression(r)}, []string{pick(r, "show", "best"), strconv.Itoa(1 + r.Intn(5)), pick(r, "m", "m", "km"), pick(r, "12345 m", "2.5(1) m + 3 km", "abs(-1/3 m)")}, []string{"unit", unit(r)}, []string{"const", pick(r, "light", "clight", "pie", "m", "2", "")}, []string{"near", pick(r, "metr", "m", "second", "kelvn", "fop", "", strings.Repeat("m", 50))}, []string{"way", unit(r), pick(r, "->", "->", "->", "to", ""), unit(r)}, []string{"start"}, []string{"list"}, []string{"list"},
		[]string{"add", pick(r, "a", "b", "\xff"), number(r), pick(r, "5", "1.5(2)", "1/3", "x", "1/0"), unit(r)}, []string{"add", pick(r, "a", "b"), number(r), pick(r, "5", "1.5(2)", "1/3"), unit(r)}, []string{"correct", number(r), pick(r, "a", "b"), number(r), pick(r, "6", "1.7(2)", "x"), unit(r)}, []string{"correct", number(r), pick(r, "a", "b"), number(r), pick(r, "6", "1.7(2)"), unit(r)}, []string{"void", number(r)}, []string{"sum", pick(r, "*", "a", "b"), number(r), number(r), unit(r)}, []string{"mean", pick(r, "*", "a", "b"), number(r), number(r), unit(r)}, []string{"back", number(r)},
		[]string{"add", "a", "3", "5.0(1)", pick(r, "m", "km")}, []string{"correct", strconv.Itoa(1 + r.Intn(4)), "a", "4", "1.5(2)", pick(r, "m", "km")},
		[]string{"decl", declaration(r)}, []string{"decl", declaration(r)}, []string{"decl", rarely(r, declaration(r), "")}, []string{"foo"}, []string{"# remark"}, []string{""},
	)
	if r.Intn(60) == 0 {
		words = []string{pick(r, "build", "own", "own")}
	}
	if r.Intn(25) == 0 {
		words = append(words, "x")
	}
	text := pick(r, "", "", "", " ", "\t")
	for i, w := range words {
		if i > 0 {
			text += blank(r)
		}
		text += w
	}
	return text + pick(r, "", "", "", " ", "\t ")
}

// lines: some of any commands; now and then a whole house, right or wrong, is declared and built.
func lines(r *rand.Rand, n int) []string {
	var all []string
	for len(all) < n {
		all = append(all, line(r))
		if r.Intn(60) > 0 {
			continue
		}
		all = append(all, "own", "decl base metre m L 1 si", "decl base second s T 1 none", "decl base kelvin K H 1 none", "decl prefix kilo k 1000 si", "decl unit foo fo 2 none m", "decl scale celsius degC 1 273.15 K", "decl const pi pie 22/7 1/700")
		if r.Intn(4) == 0 {
			all = append(all, "decl "+declaration(r))
		}
		all = append(all, "build")
	}
	return all
}

func script(r *rand.Rand, n int) string { return strings.Join(lines(r, n), "\n") + "\n" }
