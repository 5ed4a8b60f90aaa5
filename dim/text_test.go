package dim_test

import (
	"math/rand"
	"regexp"
	"strconv"
	"strings"
	"testing"

	"cubit/api"
	"cubit/dim"
)

func checkPrint(t *testing.T, d api.Dim, want string) {
	t.Helper()
	if s, e := dim.Print(d); s != want || e != api.OK {
		t.Errorf("Print(%v) = %q, %d, not %q", d, s, e, want)
	}
}

func checkParse(t *testing.T, s string, want api.Dim, why api.Errno, place int) {
	t.Helper()
	if d, e, at := dim.Parse(s); d != want || e != why || at != place {
		t.Errorf("Parse(%.60q) = %v, %d, %d, not %v, %d, %d", s, d, e, at, want, why, place)
	}
}

// P5.3.
func TestPrint(t *testing.T) {
	checkPrint(t, api.Dim{}, "1")
	checkPrint(t, api.Dim{1, 1, -2}, "L M T^-2")
	checkPrint(t, all(1), "L M T I H N J B")
	checkPrint(t, all(most), "L^99 M^99 T^99 I^99 H^99 N^99 J^99 B^99")
	checkPrint(t, all(-most), "L^-99 M^-99 T^-99 I^-99 H^-99 N^-99 J^-99 B^-99")
	checkPrint(t, api.Dim{0, 0, 0, 0, 0, 0, 0, -1}, "B^-1")
	checkPrint(t, api.Dim{10, 0, -1, 0, 2, 0, 1, 0}, "L^10 T^-1 H^2 J")
}

// P5.3.
func TestParse(t *testing.T) {
	for s, want := range map[string]api.Dim{
		"1": {}, "L": {1}, "B": {7: 1}, "M L/T^2": {1, 1, -2}, "L/T/T": {1, 0, -2}, "L/T T": {1}, "L/T M": {1, 1, -1},
		"L^0": {}, "L^-0": {}, "L^00": {}, "L^007": {7}, "L^-0099": {-99}, "L^99": {99}, "L/L": {}, "L/L^-98": {99}, "L/M^-3": {1, 3},
		"L^60 L^-30 L^60": {90}, "L^99/L^50 L^50": {99}, "B J N H I T M L": all(1), "L^99/L^99": {}, "L^-99/L^-99": {}, "H^5/H^9": {4: -4},
		"L^" + strings.Repeat("0", 70000) + "12": {12}, "L^-" + strings.Repeat("0", 70000) + "12": {-12},
	} {
		checkParse(t, s, want, api.OK, 0)
	}
	var long strings.Builder
	for range 50000 {
		long.WriteString("L/L ")
	}
	checkParse(t, long.String()+"T", api.Dim{2: 1}, api.OK, 0)
	checkParse(t, long.String(), api.Dim{}, api.ErrForm, 200000)
}

// P5.3: the place of each fault.
func TestParseFaults(t *testing.T) {
	for _, c := range []struct {
		s  string
		e  api.Errno
		at int
	}{
		{"", api.ErrForm, 0}, {" ", api.ErrForm, 0}, {"L  T", api.ErrForm, 2}, {"1 L", api.ErrForm, 1}, {"11", api.ErrForm, 1}, {"1/T", api.ErrForm, 1}, {"1^2", api.ErrForm, 1}, {"1 ", api.ErrForm, 1},
		{"L ", api.ErrForm, 2}, {"L/", api.ErrForm, 2}, {" L", api.ErrForm, 0}, {"/L", api.ErrForm, 0}, {"L / T", api.ErrForm, 2}, {"L/ T", api.ErrForm, 2}, {"L//T", api.ErrForm, 2}, {"L 1", api.ErrForm, 2}, {"L/1", api.ErrForm, 2},
		{"LT", api.ErrForm, 1}, {"L*T", api.ErrForm, 1}, {"L2", api.ErrForm, 1}, {"L-2", api.ErrForm, 1}, {"l", api.ErrForm, 0}, {"A", api.ErrForm, 0}, {"2", api.ErrForm, 0}, {"0", api.ErrForm, 0}, {"^2", api.ErrForm, 0}, {"-L", api.ErrForm, 0},
		{"L^", api.ErrForm, 2}, {"L^-", api.ErrForm, 3}, {"L^x", api.ErrForm, 2}, {"L^-x", api.ErrForm, 3}, {"L^--1", api.ErrForm, 3}, {"L^+1", api.ErrForm, 2}, {"L^ 1", api.ErrForm, 2}, {"L^L", api.ErrForm, 2}, {"L^-/", api.ErrForm, 3}, {"L^^1", api.ErrForm, 2},
		{"L^2^2", api.ErrForm, 3}, {"L^2-", api.ErrForm, 3}, {"L^2L", api.ErrForm, 3}, {"L^2.5", api.ErrForm, 3}, {"L^2:", api.ErrForm, 3}, {"L\n", api.ErrForm, 1}, {"L\x00", api.ErrForm, 1}, {"L\tT", api.ErrForm, 1},
		{"L \u00b5", api.ErrForm, 2}, {"\xff", api.ErrForm, 0}, {"L\xff", api.ErrForm, 1}, {"L^\xff", api.ErrForm, 2}, {"L^1\u0661", api.ErrForm, 3}, {"L\u00b2", api.ErrForm, 1}, {"\ufffd", api.ErrForm, 0},

		{"L^100", api.ErrExp, 2}, {"L^-100", api.ErrExp, 2}, {"T L^100", api.ErrExp, 4}, {"T/L^-00100", api.ErrExp, 4}, {"L^100x", api.ErrExp, 2}, {"L^100 x", api.ErrExp, 2}, {"L^100^", api.ErrExp, 2}, {"L^100/L^100", api.ErrExp, 2},
		{"L^18446744073709551617", api.ErrExp, 2}, {"L^-9223372036854775809", api.ErrExp, 2}, {"L^1000", api.ErrExp, 2}, {"L^" + strings.Repeat("9", 70000), api.ErrExp, 2}, {"L^1" + strings.Repeat("0", 70000), api.ErrExp, 2},
		{"L^60 T L^60", api.ErrExp, 7}, {"L^60 T L^60x", api.ErrExp, 7}, {"L^60 T L^60 L^-60", api.ErrExp, 7}, {"L^99 L", api.ErrExp, 5}, {"L^99 L^1", api.ErrExp, 5}, {"L^99 Lx", api.ErrExp, 5}, {"L^99 L ", api.ErrExp, 5}, {"L^-99/L", api.ErrExp, 6},
		{"L/L^-99", api.ErrExp, 2}, {"L^99 L^100", api.ErrExp, 7}, {"L^99 L^-100", api.ErrExp, 7}, {"T^99 L^99 T^0 T", api.ErrExp, 14}, {"B^-99 B^-1", api.ErrExp, 6},
		{"L^99 L^", api.ErrForm, 7}, {"L^99 L^x", api.ErrForm, 7}, {"L^99 L^-", api.ErrForm, 8}, {"L^99 x", api.ErrForm, 5}, {"x L^100", api.ErrForm, 0},
	} {
		checkParse(t, c.s, api.Dim{}, c.e, c.at)
	}
}

// The oracle cuts a text into terms by an expression, as far as it goes.
var (
	termText  = regexp.MustCompile(`^[ /]([LMTIHNJB])(?:\^(-?)([0-9]+))?`)
	termBegun = regexp.MustCompile(`^(?:[ /](?:[LMTIHNJB](?:\^-?)?)?)?$`)
)

// read: what Parse must answer; the texts have no long numbers.
func read(s string) (api.Dim, api.Errno, int) {
	if s == "1" {
		return api.Dim{}, api.OK, 0
	}
	if strings.HasPrefix(s, "1") {
		return api.Dim{}, api.ErrForm, 1
	}
	d := api.Dim{}
	rest := " " + s // so that a sign is ahead of the first term, too
	for rest != "" {
		at := len(s) - len(rest)
		m := termText.FindStringSubmatchIndex(rest)
		// A ^ behind a term of a letter alone must have a number.
		if m == nil || m[1] < len(rest) && m[6] < 0 && rest[m[1]] == '^' {
			end := len(rest)
			for !termBegun.MatchString(rest[:end]) {
				end--
			}
			return api.Dim{}, api.ErrForm, at + end
		}
		n := 1
		if m[6] >= 0 {
			n, _ = strconv.Atoi(rest[m[6]:m[7]])
			if n > 99 {
				return api.Dim{}, api.ErrExp, at + m[4]
			}
		}
		if (m[4] >= 0 && m[4] < m[5]) != (rest[0] == '/') {
			n = -n
		}
		d[strings.IndexByte("LMTIHNJB", rest[m[2]])] += n
		if !dim.Right(d) {
			return api.Dim{}, api.ErrExp, at + m[2]
		}
		rest = rest[m[1]:]
	}
	return d, api.OK, 0
}

// P5.3: all short texts of a few bytes.
func TestParseShort(t *testing.T) {
	var grow func(s string, more int)
	grow = func(s string, more int) {
		want, why, at := read(s)
		checkParse(t, s, want, why, at)
		if more > 0 {
			for _, c := range "LT /^-19x" {
				grow(s+string(c), more-1)
			}
		}
	}
	grow("", 6)
}

// P5.3: long texts, some with a byte that is changed.
func TestParseLong(t *testing.T) {
	r := rand.New(rand.NewSource(53))
	faults := map[api.Errno]int{}
	for range 30000 {
		var s strings.Builder
		for i := range 1 + r.Intn(12) {
			if i > 0 {
				s.WriteByte(" /"[r.Intn(2)])
			}
			s.WriteByte("LMTIHNJB"[r.Intn(8)])
			if r.Intn(3) > 0 {
				s.WriteString("^" + strconv.Itoa(r.Intn(140)-70))
			}
		}
		text := []byte(s.String())
		if r.Intn(2) == 0 {
			text[r.Intn(len(text))] = "LB /^-09.\xff"[r.Intn(10)]
		}
		want, why, at := read(string(text))
		checkParse(t, string(text), want, why, at)
		faults[why]++
	}
	if faults[api.OK] < 5000 || faults[api.ErrForm] < 5000 || faults[api.ErrExp] < 1000 {
		t.Error("the texts are too much of one kind:", faults)
	}
}

// P5.6.
func TestParsePrint(t *testing.T) {
	r := rand.New(rand.NewSource(56))
	l := edges()
	for range 5000 {
		l = append(l, chance(r, []int{1, 9, most}[r.Intn(3)]))
	}
	for _, d := range l {
		s, e := dim.Print(d)
		if e != api.OK {
			t.Error(d, e)
		}
		checkParse(t, s, d, api.OK, 0)
	}
}
