package shell_test

import (
	"fmt"
	"math/rand"
	"slices"
	"strconv"
	"strings"
	"sync"
	"testing"
	"time"

	"cubit/api"
	"cubit/book"
	"cubit/house"
	"cubit/pool"
	"cubit/rat"
	"cubit/shell"
	"cubit/unc"
)

// step: a line, and what it answers.
type step [2]string

func check(t *testing.T, s *shell.Shell, steps ...step) {
	t.Helper()
	for _, x := range steps {
		if got := s.Line(x[0]); got != x[1] {
			t.Errorf("Line(%s) = %s, not %s", short(x[0]), short(got), short(x[1]))
		}
	}
}

// The page's examples of the whole, and the chapter's.
func TestExamples(t *testing.T) {
	for n, steps := range [][]step{
		{{"exact 72 km/h in m/s", "20 m / s"}, {"exact 1 mi / 1 yd", "114967512/78125 L^2"}, {"float 0.1 + 0.2", "0.30000000000000004 [1]"}, {"exact 0.1 + 0.2", "3/10 1"}, {"exact 20 degC in degF", "68 degF"}},
		{{"let r = 2.00(1) m", "r = 2.000(10) [L]"}, {"spread r^2", "4.000(40) [L^2]"}, {"spread r - r", "0 [L]"}, {"budget r^2 * 1.0(1)", "#2 100/101; 1#0 1/101"}},
		{{"exact 5 km + 2 s", "error 50 at 7"}, {"exact 1 / (2 - 2)", "error 8 at 0"}, {"exact 1e300 m + 1 s", "error 50 at 10"}, {"float sqrt(2 m)", "error 10 at 0"}},
		{{"decl base metre m L 1 si", "1"}, {"decl unit foo fo 2 none bar", "2"}, {"decl unit bar bar 3 none foo", "3"}, {"build", "error 150 at 1"}},
		{{"decl base metre m L 1 si", "1"}, {"decl unit yard yd 9144/10000 none m", "2"}, {"decl prefix kilo k 1000 si", "3"}, {"build", "house 2 0 1"}, {"unit km", "kilometre km 1000 0 [L]"}, {"exact 1 yd in km", "1143/1250000 km"}, {"own", "house 62 13 32"}, {"unit yd", "yard yd 1143/1250 0 [L]"}},
		{{"add length 3 5.0(1) km", "#1"}, {"add length 4 3 mi", "#2"}, {"sum length 0 9 km", "9.83(10) km"}, {"correct 1 length 5 5.2(1) km", "#3"}, {"sum length 0 9 km", "10.03(10) km"}, {"back 2", "2"}, {"sum length 0 9 km", "9.83(10) km"}},
		{{"dim light^2 / gravity", "L length"}, {"unit hp", "horsepower hp 37284993579113511/50000000000000 0 [L^2 M T^-3]"}, {"const gas", "gas rgas 207861565453831/25000000000000 0 m^2 kg s^-2 K^-1 mol^-1"}, {"way km -> mi", "km -> = L 1000 0; = L -> mi 125/201168 0"}},
		{{"show 3 km 1 mi", "1.61 km"}, {"best 3 m 12345 m", "12.3 km"}, {"spread electron * light^2", "0.000000000000081871057768(25) [L^2 M T^-2]"}},
		{{"exact 72 km/h in m/s", "20 m / s"}, {"let x = 2.0(1) m", "x = 2.00(10) [L]"}, {"spread x - x", "0 [L]"}, {"dim 5 N m", "L^2 M T^-2 energy"}, {"exact 5 )m", "error 190 at 2"}, {"near metr", "metre"}, {"add length 3 5.0(1) km", "#1"}, {"sum * 0 9 m", "500(10)e1 m"}, {"void 1", "void #1"}, {"void 1", "error 261"}, {"foo", "error 300"}, {"drop", "error 301"}, {"back x", "error 1"}},
	} {
		t.Run(strconv.Itoa(n+1), func(t *testing.T) {
			check(t, shell.New(), steps...)
			text, want := "", ""
			for _, x := range steps {
				text, want = text+x[0]+"\n", want+x[1]+"\n"
			}
			if got := shell.Run(text); got != want {
				t.Errorf("Run: %q", got)
			}
		})
	}
	steps := strings.Split(shell.New().Line("start"), "\n")
	if len(steps) != 93 || steps[0] != "cubit/prefix deca" || steps[32] != "cubit/base bit" || steps[92] != "cubit/house plan" {
		t.Error(steps)
	}
}

// P30.1: nil, sizes, bytes 10, lines that say nothing, blanks, what is no command.
func TestLine(t *testing.T) {
	var none *shell.Shell
	check(t, none, step{"vars", "error 2"}, step{"", "error 2"}, step{strings.Repeat(" ", 70000), "error 2"}, step{"\n", "error 2"}, step{"# x", "error 2"})
	s := shell.New()
	check(t, s,
		step{"", ""}, step{" \t ", ""}, step{"#", ""}, step{"#exact 1", ""}, step{"\t # exact 1", ""}, step{strings.Repeat(" ", 65536), ""}, step{"#" + strings.Repeat("x", 65535), ""},
		step{strings.Repeat(" ", 65537), "error 4"}, step{"#" + strings.Repeat("x", 65536), "error 4"}, step{strings.Repeat("\n", 65537), "error 4"}, step{"exact 1" + strings.Repeat(" ", 65529), "1 1"}, step{"exact 1" + strings.Repeat(" ", 65530), "error 4"},
		step{"\n", "error 1"}, step{"# x\n", "error 1"}, step{"exact 1\n", "error 1"}, step{"foo\n", "error 1"}, step{"exact 1\n+ 1", "error 1"},
		step{"foo", "error 300"}, step{"Exact 1", "error 300"}, step{"exact1", "error 300"}, step{"\rexact 1", "error 300"}, step{"exact\u00a01", "error 300"}, step{"-> 1", "error 300"}, step{"vars\r", "error 300"}, step{"\xff", "error 300"}, step{"NAME", "error 300"}, step{"x #", "error 300"},
		step{"exact 1", "1 1"}, step{"\t exact \t 1 \t", "1 1"}, step{"exact\t1\t+ 1", "2 1"}, step{"exact 1\r", "1 1"}, step{"exact # 1", "error 180 at 0"}, step{"vars # no remark", "error 301"},
	)
}

// ErrWords goes ahead of ErrArg, that ahead of all that the table tells.
func TestWords(t *testing.T) {
	s := shell.New()
	for _, l := range []string{
		"let", "let x", "let x =", "let x = \t", "let 2x", "let in =", "drop", "drop a b", "drop 2 2", "vars x", "exact", "float", "spread", "budget", "dim", "show", "show x", "show 3 km", "show x km", "best 3 m", "unit", "unit a b", "const", "const a b", "near", "near a b", "way", "way ->", "way km", "way km ->", "way -> km", "way km mi", "way km->mi", "way -> -> km", "way km-> mi", "decl", "build x", "own x", "add", "add a", "add a x", "add a 1 1", "add a x y", "correct", "correct x a 1 1", "correct 1 a 1 1", "void", "void 1 2", "void x y", "list x", "sum", "sum * 0 9", "sum * x y", "mean a 0 9", "back", "back 1 2", "back x y", "start x", "list #",
	} {
		check(t, s, step{l, "error 301"})
	}
	for _, n := range []string{"x", "-", "--1", "+1", "1.0", "1e1", "1234567890", "-1234567890", "0000000001", "0x1", "1_0", "\u0661", "1-", "99999999999999999999"} {
		for _, l := range []string{"show N km (", "best N foo (", "add a N x foo", "correct N a 1 x foo", "correct 1 a N x foo", "void N", "sum a N 1 foo", "sum a 1 N foo", "mean a N 1 foo", "mean a 1 N foo", "back N"} {
			check(t, s, step{strings.Replace(l, "N", n, 1), "error 1"})
		}
	}
	check(t, s, step{"add a 000000003 1 m", "#1"}, step{"add a 123456789 1 m", "error 1"}, step{"add a -0 1 m", "#2"}, step{"add a -999999999 1 m", "error 1"}, step{"void 000000001", "void #1"}, step{"void -1", "error 260"}, step{"void 999999999", "error 260"}, step{"sum * -999999999 999999999 m", "1 m"}, step{"back -0", "0"}, step{"back -1", "error 1"}, step{"show 003 km 1 m", "0.00100 km"})
}

// let: what it keeps, its errors in their order, and that these change nothing.
func TestLet(t *testing.T) {
	s := shell.New()
	check(t, s,
		step{"vars", ""}, step{"let a = 3", "a = 3 [1]"}, step{"let \u00b5 = a m", "\u03bc = 3 [L]"}, step{"let\tb\t=\t2 \u03bc + 1 \u00b5", "b = 9 [L]"}, step{"vars", "a \u03bc b"}, step{"let a = a + 1.0(1)", "a = 4.00(10) [1]"}, step{"vars", "a \u03bc b"}, step{"let t = 20 degC", "t = 5863/20 [H]"}, step{"exact t in degF", "68 degF"}, step{"let k = 1 K in degC", "k = 1 [H]"},
		step{"let 2x y )", "error 60"}, step{"let in y )", "error 201"}, step{"let " + strings.Repeat("x", 41) + " y )", "error 4"}, step{"let x y )", "error 301"}, step{"let x == 1", "error 301"}, step{"let x =1 2", "error 301"}, step{"let x=1 2 3", "error 60"}, step{"let x = )", "error 190 at 0"}, step{"let x =  1 + )", "error 190 at 4"}, step{"let x = 1 m + foo", "error 201 at 6"}, step{"let x = 1/0", "error 8 at 0"}, step{"let x = 5 ;", "error 180 at 2"}, step{"let a = 1 m + 1 s", "error 50 at 6"},
		step{"vars", "a \u03bc b t k"}, step{"spread a", "4.00(10) [1]"}, step{"exact x", "error 201 at 0"},
		// A variable goes ahead of a unit and of a constant.
		step{"let m = 5 s", "m = 5 [T]"}, step{"exact 2 m", "10 T"}, step{"let light = 7", "light = 7 [1]"}, step{"exact light", "7 1"}, step{"drop m", "dropped m"}, step{"exact 2 m", "2 L"}, step{"drop light", "dropped light"}, step{"dim light", "L T^-1 speed"},
	)
	check(t, s, step{"drop \u00b5", "dropped \u03bc"}, step{"drop \u03bc", "error 201"}, step{"drop 2", "error 60"}, step{"drop in", "error 201"}, step{"drop " + strings.Repeat("x", 41), "error 4"}, step{"vars", "a b t k"}, step{"let \u03bc = 1", "\u03bc = 1 [1]"}, step{"vars", "a b t k \u03bc"})
	// unc.Print's error: a value that has too many digits up to its spread's last place, which may be too far behind the point itself.
	small := "1(1) / " + strings.Repeat("9", 600)
	check(t, s, step{"let x = 1(1)e-600", "error 7 at 0"}, step{"let x = 3 + (1.0(1)e-300)^2", "error 7 at 4"}, step{"let x = 10 + 0(1)e-599", "error 7"}, step{"spread 10 + 0(1)e-599", "error 7"}, step{"let x = " + small, "error 7"}, step{"spread " + small, "error 7"}, step{"budget " + small, "#0 1"}, step{"exact " + small, "1/" + strings.Repeat("9", 600) + " 1"}, step{"vars", "a b t k \u03bc"}, step{"exact x", "error 201 at 0"}, step{"let x = 1.0(1)", "x = 1.00(10) [1]"}, step{"budget x", "10#0 1"})
}

// A name with two runes and one form is one variable; ErrFull comes last, and not where a name is there already.
func TestLetFull(t *testing.T) {
	s := shell.New()
	var all []string
	for n := range 256 {
		name := fmt.Sprintf("v%d", n)
		all = append(all, name)
		check(t, s, step{fmt.Sprintf("let %s = %d", name, n), fmt.Sprintf("%s = %d [1]", name, n)})
	}
	check(t, s, step{"vars", strings.Join(all, " ")}, step{"let x = 1", "error 80"}, step{"let x = )", "error 190 at 0"}, step{"let x y 1", "error 301"}, step{"let v7 = v8 + 1.0(1)", "v7 = 9.00(10) [1]"}, step{"budget v7", "257#1 1"}, step{"vars", strings.Join(all, " ")}, step{"drop v0", "dropped v0"}, step{"let x = v255 + v7", "x = 264.00(10) [1]"}, step{"let v0 = 1", "error 80"}, step{"vars", strings.Join(append(all[1:], "x"), " ")})
}

// Sources: of one let they stay one and the same, of different commands they are different ones; a let that tells an error has no number.
func TestSources(t *testing.T) {
	s := shell.New()
	check(t, s,
		step{"let a = 1.0(1)", "a = 1.00(10) [1]"}, step{"let b = 1.0(1)", "b = 1.00(10) [1]"}, step{"spread a - a", "0 [1]"}, step{"spread a - b", "0.00(14) [1]"}, step{"budget a - b", "1#0 1/2; 2#0 1/2"}, step{"spread a - 1.0(1)", "0.00(14) [1]"},
		step{"let c = )", "error 190 at 0"}, step{"let c = a + b + 1.0(1)", "c = 3.00(17) [1]"}, step{"budget c", "1#0 1/3; 2#0 1/3; 3#3 1/3"}, step{"let a = 2.0(1)", "a = 2.00(10) [1]"}, step{"spread a + b - c", "0.00(17) [1]"}, step{"budget a + b - c", "1#0 1/3; 3#3 1/3; 4#0 1/3"},
		step{"let e = electron", "e = 0.00000000000000000000000000000091093837015(28) [M]"}, step{"spread e - electron", "0 [M]"}, step{"budget e", "electron 1"},
	)
	for n := 6; n <= 13; n++ {
		check(t, s, step{"let z" + strconv.Itoa(n) + " = 1.0(1) + 2.0(1)", "z" + strconv.Itoa(n) + " = 3.00(14) [1]"})
	}
	check(t, s, step{"let y = z6 + z13 + z12 + e / kg + 5.0(1)", "y = 14.00(26) [1]"}, step{"let y = y - z6 - z12", "y = 8.00(17) [1]"}, step{"spread y - z13", "5.00(10) [1]"}, step{"budget y - z13 - e / kg", "14#9 1"})
	// The numbers go on in another house.
	check(t, s, step{"own", "house 62 13 32"}, step{"let a = 1.0(1)", "a = 1.00(10) [1]"}, step{"budget a", "16#0 1"}, step{"budget 5", ""}, step{"budget 1.0(2) + 2.0(1) m/m", "#0 4/5; #1 1/5"})
	other := shell.New()
	check(t, other, step{"let a = 1.0(1)", "a = 1.00(10) [1]"}, step{"budget a", "1#0 1"})
}

// As many sources as a value may have; one more is an error of the expression, at its place.
func TestManySources(t *testing.T) {
	s := shell.New()
	check(t, s, step{"let x = 0", "x = 0 [1]"})
	for range 63 {
		s.Line("let x = x + 1.0(1)")
	}
	check(t, s, step{"let x = x + 1.0(1)", "x = 64.00(80) [1]"}, step{"let x = x + 1.0(1)", "error 40 at 0"}, step{"exact x", "64 1"}, step{"spread x - x", "0 [1]"})
	if shares := strings.Split(s.Line("budget x"), "; "); len(shares) != 64 || shares[0] != "10#1 1/64" || !slices.IsSorted(shares) {
		t.Error(shares)
	}
}

// The commands that work expressions out: with the variables, and their errors at their place.
func TestExpressions(t *testing.T) {
	s := shell.New()
	check(t, s, step{"let x = 2.0(1) m", "x = 2.00(10) [L]"},
		step{"exact x^2 in cm^2", "40000 cm^2"}, step{"exact 1 / 3", "1/3 1"}, step{"exact -x", "-2 L"}, step{"exact 5 m in foo", "error 200 at 7"}, step{"exact 5 m in 2 degC", "error 120 at 9"}, step{"exact 5 m in s", "error 50 at 7"}, step{"exact 1e599 m in mm", "error 7 at 0"}, step{"exact sqrt(2)", "error 210 at 0"}, step{"exact 3 + sqrt(2)", "error 210 at 4"}, step{"exact 1e600", "error 7 at 0"}, step{"exact x^9999", "error 51 at 1"}, step{"exact 2 * 20 degC", "error 120 at 7"}, step{"exact (m)", "1 L"}, step{"exact 5 in m", "error 50 at 5"}, step{"exact 5 in 0", "error 3 at 5"},
		step{"float x", "2 [L]"}, step{"float -0 * 1", "-0 [1]"}, step{"float 1e300 * 1e300 * 0", "error 31 at 0"}, step{"float 1 + 1e400", "error 31 at 4"}, step{"float 1 / (x - x)", "error 8 at 0"}, step{"float sqrt(2) in m/m", "1.4142135623730951 [1]"}, step{"float 1e22 m", "1e+22 [L]"}, step{"float foo", "error 201 at 0"}, step{"float (", "error 190 at 1"}, step{"float 5 km in m", "5000 [L]"},
		step{"spread x + 1 s", "error 50 at 4"}, step{"spread 1.0(1) / (x / m - 2)", "error 8 at 0"}, step{"spread ~", "error 180 at 0"}, step{"spread 1/3", "1/3 [1]"}, step{"spread 5(2)e3", "50(20)e2 [1]"},
		step{"budget x + 1 s", "error 50 at 4"}, step{"budget )", "error 190 at 0"}, step{"budget 1 / 0", "error 8 at 0"}, step{"budget x", "1#0 1"}, step{"budget 7 m", ""},
		step{"dim x^2", "L^2 area"}, step{"dim x / x", "1 number"}, step{"dim x^7", "L^7"}, step{"dim 1 / 0", "1 number"}, step{"dim sqrt(x)", "error 10 at 0"}, step{"dim 1 m + 2", "error 50 at 6"}, step{"dim [", "error 180 at 0"},
		step{"show 3 cm x", "200 cm"}, step{"show 0 cm x", "error 1"}, step{"show 41 cm )", "error 190 at 0"}, step{"show 41 foo x", "error 1"}, step{"show 4 foo x", "error 200"}, step{"show 4 s x", "error 50"}, step{"show 4 degF 20 degC", "68.00 degF"}, step{"show 3 m/s x / s", "error 60"}, step{"show 3 \u00b5m x", "2.00e6 \u00b5m"}, step{"show 2 m 1 m + 1", "error 50 at 6"},
		step{"best 3 m 12345 x", "24.7 km"}, step{"best 3 km x", "error 200"}, step{"best 2 B 8192 B", "8.2 kB"}, step{"best 3 s 1/0", "error 8 at 0"}, step{"best 3 s x", "error 50"}, step{"best 3 metre x / 1000", "2.00 mm"}, step{"best -3 m x", "error 1"},
	)
}

// The commands that ask the house.
func TestHouse(t *testing.T) {
	s := shell.New()
	check(t, s,
		step{"unit degC", "celsius \u00b0C 1 5463/20 [H]"}, step{"unit \u00b5m", "micrometre \u03bcm 1/1000000 0 [L]"}, step{"unit foo", "error 200"}, step{"unit 2", "error 60"}, step{"unit light", "error 200"}, step{"unit in", "error 201"}, step{"unit km/h", "error 60"}, step{"unit %", "error 200"},
		step{"const electron", "electron melec 18218767403/20000000000000000000000000000000000000000 7/25000000000000000000000000000000000000000 kg"}, step{"const clight", "light clight 299792458 0 m s^-1"}, step{"const m", "error 201"}, step{"const \u00a0", "error 60"}, step{"const in", "error 201"},
		step{"near qqqqqqqq", ""}, step{"near secondyz", "second"}, step{"near secondxyz", ""}, step{"near metres", "metre"}, step{"near " + strings.Repeat("m", 41), ""}, step{"near metr", "metre"},
		step{"way km/h -> m / s", "km/h -> = L T^-1 5/18 0; = L T^-1 -> m / s 1 0"}, step{"way \u00b0F -> K", "\u00b0F -> = H 5/9 45967/180; = H -> K 1 0"}, step{"way m -> m", ""}, step{"way  km\t/  h  ->\tm ", "error 50"}, step{"way  km\t/  h  ->\tm /  s ", "km\t/  h -> = L T^-1 5/18 0; = L T^-1 -> m /  s 1 0"}, step{"way foo -> )", "error 200"}, step{"way ) -> foo", "error 190"}, step{"way m -> s", "error 50"}, step{"way m -> km -> mi", "error 3"}, step{"way m -> m in m", "error 3"}, step{"way -> m", "error 301"}, step{"way m", "error 301"},
	)
	steps := s.Line("start")
	check(t, s, step{"decl base metre m L 1 si", "1"}, step{"build", "house 1 0 0"}, step{"start", steps}, step{"unit s", "error 200"}, step{"const light", "error 201"}, step{"near metr", "metre"}, step{"way m -> m^2", "error 50"}, step{"exact 3 s", "error 201 at 2"}, step{"add a 1 1 s", "error 200"}, step{"own", "house 62 13 32"}, step{"exact 3 s", "3 T"})
	// A constant without a unit has none behind its last blank.
	check(t, s, step{"decl const pi pie 22/7 1/700", "1"}, step{"build", "house 0 1 0"}, step{"const pie", "pi pie 22/7 1/700 "}, step{"spread pi", "3.1429(14) [1]"}, step{"vars", ""})
}

// decl, build, own: what they begin anew, what stays where they tell an error.
func TestBuild(t *testing.T) {
	s := shell.New()
	check(t, s,
		step{"let x = 1.0(1) m", "x = 1.00(10) [L]"}, step{"add a 1 1 m", "#1"},
		step{"decl base metre m L 1 si", "1"}, step{"decl foo", "2"}, step{"build", "error 170 at 1"}, step{"vars", "x"}, step{"sum * 0 9 m", "1 m"}, step{"unit yd", "yard yd 1143/1250 0 [L]"},
		// The lines are gone.
		step{"decl # none", "1"}, step{"decl base metre m L 0 si", "2"}, step{"build", "error 8 at 1"}, step{"decl base metre m L 1 si", "1"}, step{"decl  # a remark ", "2"}, step{"decl unit foo fo 2 none bar", "3"}, step{"build", "error 200 at 1"},
		step{"decl base metre m L 1 si", "1"}, step{"decl base metre s T 1 si", "2"}, step{"build", "error 6 at 1"}, step{"vars", "x"}, step{"sum * 0 9 m", "1 m"}, step{"budget x", "1#0 1"},
		step{"decl base metre m L 1 si", "1"}, step{"own", "house 62 13 32"}, step{"vars", ""}, step{"sum * 0 9 m", "0 m"}, step{"back 1", "error 1"}, step{"list", ""},
		step{"decl\t\tbase\tmetre m   L 1 si ", "1"}, step{"let y = 1", "y = 1 [1]"}, step{"add a 1 1 yd", "#1"}, step{"build", "house 1 0 0"}, step{"vars", ""}, step{"list", ""}, step{"back 0", "0"}, step{"back 1", "error 1"}, step{"unit yd", "error 200"}, step{"add a 1 1 m", "#1"}, step{"exact y", "error 201 at 0"},
		step{"build", "house 0 0 0"}, step{"unit m", "error 200"}, step{"list", ""}, step{"exact 1 + 1", "2 1"}, step{"own", "house 62 13 32"}, step{"unit m", "metre m 1 0 [L]"},
	)
	for n := range 1024 {
		check(t, s, step{"decl # " + strconv.Itoa(n), strconv.Itoa(n + 1)})
	}
	check(t, s, step{"decl # x", "error 80"}, step{"decl", "error 301"}, step{"build", "house 0 0 0"}, step{"decl # x", "1"})
	for n := range 3 {
		check(t, s, step{"decl #" + strings.Repeat("x", 30000), strconv.Itoa(n + 2)})
	}
	check(t, s, step{"build", "error 4 at 0"}, step{"decl # x", "1"})
}

// The commands of the ledger.
func TestLedger(t *testing.T) {
	s := shell.New()
	check(t, s,
		step{"list", ""}, step{"sum * 0 9 m", "0 m"}, step{"mean * 0 9 m", "error 270"}, step{"back 0", "0"},
		step{"add length 3 5.0(1) km", "#1"}, step{"add length 4 1/3 mi", "#2"}, step{"add time 3 90(5)e0 m s / m", "#3"}, step{"add heat 5 20 degC", "#4"},
		step{"list", "1\t0\t3\t+\tlength\t5\t1/10\tkm\n2\t0\t4\t+\tlength\t1/3\t0\tmi\n3\t0\t3\t+\ttime\t90\t5\tm s / m\n4\t0\t5\t+\theat\t20\t0\tdegC"},
		step{"sum length 0 9 m", "554(10)e1 m"}, step{"sum * 3 3 min", "1.500(83) min"}, step{"mean length 0 9 m", "346028/125 m"}, step{"mean length 4 4 mi", "1/3 mi"}, step{"mean heat 0 9 degF", "68 degF"}, step{"mean length 9 0 m", "error 270"}, step{"sum foo 0 9 m", "0 m"}, step{"sum ** 0 9 m", "0 m"}, step{"mean * 0 9 kg", "error 270"},
		step{"sum * 0 9 foo", "error 200"}, step{"mean * 0 9 )", "error 190"}, step{"sum * 0 9 m + m", "error 3"},
		step{"add length 3 x foo", "error 3"}, step{"add length 3 1/0 foo", "error 8"}, step{"add length 3 5(1 foo", "error 3"}, step{"add length 3 1e600 foo", "error 7"}, step{"add \u00e9 3 5 foo", "error 3"}, step{"add length -1 5 foo", "error 200"}, step{"add length -1 5 m", "error 1"}, step{"add length 1000001 5 m", "error 1"}, step{"add length 1 5 2 degC", "error 120"}, step{"add " + strings.Repeat("x", 41) + " 1 5 m", "error 3"},
		step{"correct 9 length 3 x km", "error 3"}, step{"correct 9 length 3 5 foo", "error 260"}, step{"correct 1 length 3 5 foo", "error 200"}, step{"correct 1 time 3 5 s", "error 1"}, step{"correct 1 length 3 5 s", "error 50"}, step{"correct 1 length 6 5.2(1) km", "#5"}, step{"correct 1 length 6 5.2(1) km", "error 261"}, step{"void 1", "error 261"}, step{"void 2", "void #2"}, step{"void 0", "error 260"}, step{"void 6", "error 260"},
		step{"list", "3\t0\t3\t+\ttime\t90\t5\tm s / m\n4\t0\t5\t+\theat\t20\t0\tdegC\n5\t1\t6\t+\tlength\t26/5\t1/10\tkm"},
		step{"back 7", "error 1"}, step{"back 6", "6"}, step{"back 5", "5"}, step{"mean length 0 9 km", "44816/15625 km"}, step{"back 6", "error 1"}, step{"add a 0 1 m", "#6"}, step{"back 1", "1"}, step{"list", "1\t0\t3\t+\tlength\t5\t1/10\tkm"}, step{"add a 0 1 m\t/ m", "#2"}, step{"list", "1\t0\t3\t+\tlength\t5\t1/10\tkm\n2\t0\t0\t+\ta\t1\t0\tm\\t/ m"},
	)
	// A list that is too long, and a sum of too many sources.
	for range 109 {
		s.Line("add b 1 1.0(1)e599 m")
	}
	check(t, s, step{"list", "error 4"}, step{"sum b 0 9 m", "error 7"}, step{"mean b 0 9 m", "1" + strings.Repeat("0", 599) + " m"}, step{"sum * 0 9 km", "error 40"})
}

// P30.2, P30.4.
func TestRun(t *testing.T) {
	for _, c := range []step{
		{"", ""}, {"\n\n", ""}, {"exact 1 + 1\n\nexact 2", "2 1\n2 1\n"}, {"exact 1\n# x\n", "1 1\n"}, {"foo", "error 300\n"}, {"exact 1\r\nvars\nexact 2", "1 1\n2 1\n"}, {"let x = 1\nvars\ndrop x\nvars\n", "x = 1 [1]\nx\ndropped x\n"}, {"add a 1 1 m\nadd a 1 2 m\nlist\nvoid 1", "#1\n#2\n1\t0\t1\t+\ta\t1\t0\tm\n2\t0\t1\t+\ta\t2\t0\tm\nvoid #1\n"},
		{strings.Repeat("\n", 65536), ""}, {strings.Repeat("\n", 65537), "error 4"}, {strings.Repeat("x", 65537), "error 4"}, {strings.Repeat("x", 65536), "error 300\n"}, {"exact 1\n" + strings.Repeat("x", 70000), "error 4"},
	} {
		if got := shell.Run(c[0]); got != c[1] {
			t.Errorf("Run(%s) = %s", short(c[0]), short(got))
		}
	}
	r := rand.New(rand.NewSource(302))
	for range 60 {
		one, other := script(r, 30), script(r, 20)
		first, both := shell.Run(one), shell.Run(one+other)
		if !strings.HasPrefix(both, first) {
			t.Errorf("Run of both does not begin with Run of %s", short(one))
		}
		s, all := shell.New(), ""
		for l := range strings.SplitSeq(one+other, "\n") {
			if answer := s.Line(l); answer != "" {
				all += answer + "\n"
			}
		}
		if all != both {
			t.Errorf("Run(%s) is not what its lines answer", short(one+other))
		}
		if want := run(one + other); want != both {
			t.Errorf("Run(%s) = %s, not %s", short(one+other), short(both), short(want))
		}
	}
}

// P30.3, P10: line by line what the layers answer.
func TestAgainstTheLayers(t *testing.T) {
	r := rand.New(rand.NewSource(303))
	told, failed := make(map[string]int), make(map[string]int)
	for range 60 {
		s, m := shell.New(), newModel()
		for _, l := range lines(r, 150) {
			got, want := s.Line(l), m.line(l)
			if got != want {
				t.Fatalf("Line(%s) = %s, not %s", short(l), short(got), short(want))
			}
			word := append(strings.Fields(l), "")[0]
			if strings.HasPrefix(got, "error ") {
				failed[word]++
			} else {
				told[word]++
			}
		}
	}
	for name := range pattern {
		if told[name] < 10 || failed[name] < 3 {
			t.Errorf("%s: %d answers, %d errors", name, told[name], failed[name])
		}
	}
}

// P30.6: lines that tell an error, but build, may as well not stand there.
func TestErrorsChangeNothing(t *testing.T) {
	r := rand.New(rand.NewSource(306))
	left := 0
	for range 60 {
		s, clean := shell.New(), shell.New()
		for _, l := range lines(r, 120) {
			got := s.Line(l)
			if strings.HasPrefix(got, "error ") && strings.Trim(l, " \t") != "build" {
				left++
				continue
			}
			if want := clean.Line(l); got != want {
				t.Fatalf("Line(%s) = %s, not %s", short(l), short(got), short(want))
			}
		}
	}
	if left < 1000 {
		t.Error(left)
	}
}

// P30.5: shells side by side, at one time too, as each alone.
func TestSideBySide(t *testing.T) {
	r := rand.New(rand.NewSource(305))
	one, other := shell.New(), shell.New()
	a, b := newModel(), newModel()
	others := lines(r, 500)
	for n, l := range lines(r, 400)[:400] {
		k := others[n]
		if got, want := one.Line(l), a.line(l); got != want {
			t.Fatalf("Line(%s) = %s, not %s", short(l), short(got), short(want))
		}
		if got, want := other.Line(k), b.line(k); got != want {
			t.Fatalf("Line(%s) = %s, not %s", short(k), short(got), short(want))
		}
	}
	var wait sync.WaitGroup
	for n := range 8 {
		wait.Add(1)
		go func() {
			defer wait.Done()
			text := script(rand.New(rand.NewSource(int64(n))), 60)
			if got, want := shell.Run(text), run(text); got != want {
				t.Errorf("Run(%s) = %s, not %s", short(text), short(got), short(want))
			}
		}()
	}
	wait.Wait()
}

// P7: what list tells is read again as it was; P9: what back finds is what list told then.
func TestKept(t *testing.T) {
	r := rand.New(rand.NewSource(307))
	for range 30 {
		s := shell.New()
		views := []string{""}
		for range 40 {
			l := pick(r, "add a 1 2.0(1) km", "add b 2 1/3 m\t/ s", "correct "+strconv.Itoa(1+r.Intn(8))+" a 3 7(1) mi", "void "+strconv.Itoa(1+r.Intn(12)))
			if got := s.Line(l); !strings.HasPrefix(got, "error") {
				views = append(views, s.Line("list"))
			}
		}
		for n := len(views) - 1; n >= 0; n -= 1 + r.Intn(3) {
			check(t, s, step{"back " + strconv.Itoa(n), strconv.Itoa(n)}, step{"list", views[n]})
			if views[n] == "" {
				continue
			}
			l, why, _ := book.Parse(views[n] + "\n")
			again, fault, _ := book.Print(l)
			if why != api.OK || fault != api.OK || again != views[n]+"\n" {
				t.Errorf("%q is read as %v, %d", views[n], l, why)
			}
		}
	}
}

// P8: what many have recorded is what the shell's lines, one after another, have entered.
func TestRecorded(t *testing.T) {
	h, _ := house.Own()
	s := shell.New()
	var batches [][]api.Entry
	for n := range 20 {
		var batch []api.Entry
		for i := range 5 {
			unit := []string{"km", "s", "foo", "m / s"}[(n+i)%4]
			batch = append(batch, api.Entry{What: "a", Value: rat.Of(int64(n)), Spread: rat.Of(int64(i)), Unit: unit, Day: n})
			s.Line(fmt.Sprintf("add a %d %d(%d) %s", n, n, i, unit))
		}
		batches = append(batches, batch)
	}
	l, _, why := pool.Record(h, batches, 8)
	text, fault := book.Save(l)
	if why != api.OK || fault != api.OK || s.Line("list")+"\n" != text {
		t.Errorf("%s, not %s", short(s.Line("list")), short(text))
	}
}

// P5: of expressions without uncertainty spread and exact tell one number, and what exact tells in a unit is that number of it.
func TestOneNumber(t *testing.T) {
	s := shell.New()
	for _, e := range []string{"5 km / (2 s)", "light^2 / gravity", "(1 mi)^3", "3 + 4 * 5", "20 degC", "abs(-3 m)", "sqrt(16 m^2)", "hplanck * clight"} {
		exact, _, _ := strings.Cut(s.Line("exact "+e), " ")
		uncertain, d, _ := strings.Cut(s.Line("spread "+e), " ")
		if exact != uncertain || !strings.HasPrefix(d, "[") {
			t.Errorf("%s: %s, %s", e, exact, uncertain)
		}
		v, why, _ := unc.Parse(uncertain, "x")
		if text, _ := rat.Print(v.Value); why != api.OK || text != exact {
			t.Errorf("%s: %s, %s", e, exact, text)
		}
	}
}

// P1: no line of any kind panics, in a shell that New has not made, too.
func TestOdd(t *testing.T) {
	r := rand.New(rand.NewSource(308))
	for range 40 {
		s := new(shell.Shell)
		for _, l := range lines(r, 60) {
			s.Line(l)
		}
	}
	s := shell.New()
	for range 3000 {
		b := []byte(line(r))
		for range r.Intn(4) {
			at := r.Intn(len(b) + 1)
			b = slices.Insert(b, at, byte(r.Intn(256)))
		}
		if got := s.Line(string(b)); strings.HasPrefix(got, "error 0") {
			t.Errorf("Line(%s) = %s", short(b), got)
		}
	}
}

// P1: long texts end soon.
func TestGreat(t *testing.T) {
	begun := time.Now()
	for _, text := range []string{
		strings.Repeat("own\n", 16384), strings.Repeat("build\n", 10922), strings.Repeat("start\n", 500), strings.Repeat("let x = 1(1)\n", 5041), strings.Repeat("decl base metre m L 1 si\nbuild\n", 2000), strings.Repeat("add a 1 1.0(1) m\n", 3800), strings.Repeat("add a 1 1 m\nlist\n", 2000), strings.Repeat("near metr\n", 200), "exact " + strings.Repeat("(", 65500), "exact " + strings.Repeat("1+", 4000) + "1", "spread " + strings.Repeat("1(1)+", 4000) + "1", "let x = " + strings.Repeat("1-", 30000) + "1", "way " + strings.Repeat("-> ", 20000), "way " + strings.Repeat("m ", 20000) + "-> m", strings.Repeat("let x = 2.0(1)\nlet x = x * x\n", 2000), "drop " + strings.Repeat("x", 60000), "decl " + strings.Repeat("x ", 30000), strings.Repeat("\xff ", 20000),
	} {
		shell.Run(text)
	}
	if used := time.Since(begun); used > 60*time.Second {
		t.Error(used)
	}
}
