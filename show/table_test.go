package show_test

import (
	"math/rand"
	"slices"
	"strings"
	"testing"

	"cubit/api"
	"cubit/show"
)

// P25.5: the chapter's example, and rows of other lengths.
func TestTable(t *testing.T) {
	for _, c := range []struct {
		rows [][]string
		want string
	}{
		{[][]string{{"a", "bb"}, {"ccc", "d"}}, "a    bb\nccc  d\n"}, {nil, ""}, {[][]string{{}}, "\n"}, {[][]string{nil, {""}, nil}, "\n\n\n"}, {[][]string{{"", ""}}, "  \n"}, {[][]string{{"a"}, {"b", "c"}}, "a\nb  c\n"}, {[][]string{{"long"}, {"b", "c"}}, "long\nb     c\n"}, {[][]string{{"b", "c"}, {"long"}}, "b     c\nlong\n"}, {[][]string{{"b", "wide", "x"}, {"c", "d"}, {"e", "f", "g"}}, "b  wide  x\nc  d\ne  f     g\n"}, {[][]string{{"\u00b5", "x"}, {"abc", "y"}}, "\u00b5   x\nabc  y\n"}, {[][]string{{" ", "\x7f", "\xff"}}, "   \x7f  \xff\n"}, {[][]string{{"last  "}}, "last  \n"},
	} {
		if s, e := show.Table(c.rows); s != c.want || e != api.OK {
			t.Errorf("Table(%q) = %q, %d, not %q", c.rows, s, e, c.want)
		}
	}
}

func rowsOf(n int, cells ...string) [][]string {
	var rows [][]string
	for range n {
		rows = append(rows, cells)
	}
	return rows
}

// P25.5: at the limits, and behind them; ErrSize goes ahead.
func TestTableLimits(t *testing.T) {
	long := strings.Repeat("x", api.MaxText)
	for _, c := range []struct {
		rows [][]string
		want api.Errno
	}{
		{rowsOf(1000), api.OK}, {rowsOf(1001), api.ErrSize}, {rowsOf(1000, "a", "b"), api.OK}, {rowsOf(1001, "a", "\n"), api.ErrSize},
		{rowsOf(1, make([]string, 100)...), api.OK}, {rowsOf(1, make([]string, 101)...), api.ErrSize}, {rowsOf(2, append(make([]string, 100), "\n")...), api.ErrSize},
		{rowsOf(1, long[1:]), api.OK}, {append(rowsOf(1, long[1:]), nil), api.ErrSize}, {rowsOf(1, long), api.ErrSize}, {rowsOf(1, long+long), api.ErrSize}, {rowsOf(1, long[1:]+"\n"), api.ErrSize}, {rowsOf(1, long[2:]+"\n"), api.ErrForm},
		{rowsOf(1, long[3:], ""), api.OK}, {rowsOf(1, long[2:], ""), api.ErrSize}, {rowsOf(1, long[4:], "a"), api.OK}, {rowsOf(1, long[3:], "a"), api.ErrSize},
		{append(rowsOf(1, long[:30000]), rowsOf(1, "", "")...), api.OK}, {append(rowsOf(1, long[:30000]), rowsOf(2, "", "")...), api.ErrSize}, {append(rowsOf(2, "", ""), rowsOf(1, long[:30000])...), api.ErrSize},
		{rowsOf(1000, make([]string, 32)...), api.OK}, {rowsOf(1000, make([]string, 34)...), api.ErrSize}, {rowsOf(1000, make([]string, 100)...), api.ErrSize},
		{rowsOf(1, "a\x1f"), api.ErrForm}, {rowsOf(1, "a", "b\x00"), api.ErrForm}, {rowsOf(1, "a", "\t", "b"), api.ErrForm}, {append(rowsOf(3, "a"), []string{"b", "c\n"}), api.ErrForm}, {rowsOf(1, " "), api.OK},
	} {
		s, e := show.Table(c.rows)
		if e != c.want || e != api.OK && s != "" || len(s) > api.MaxText {
			t.Errorf("Table of %d rows: %d bytes, %d, not %d", len(c.rows), len(s), e, c.want)
		}
	}
	great := rowsOf(1000, slices.Repeat([]string{strings.Repeat(long, 16)}, 100)...)
	if s, e := show.Table(great); s != "" || e != api.ErrSize {
		t.Error(len(s), e)
	}
}

// P25.5: tables of chance against the chapter's words: cell by cell at its place.
func TestTableAgainstTheModel(t *testing.T) {
	r := rand.New(rand.NewSource(256))
	for range 3000 {
		rows := make([][]string, r.Intn(8))
		width := make([]int, 6)
		for i := range rows {
			rows[i] = make([]string, r.Intn(6))
			for k := range rows[i] {
				rows[i][k] = strings.Repeat(pick(r, "a", "\u00b5", " ", "~"), r.Intn(5))
				width[k] = max(width[k], len(rows[i][k]))
			}
		}
		want := ""
		for _, row := range rows {
			for k, cell := range row {
				want += cell
				if k < len(row)-1 {
					want += strings.Repeat(" ", width[k]-len(cell)+2)
				}
			}
			want += "\n"
		}
		if s, e := show.Table(rows); s != want || e != api.OK {
			t.Errorf("Table(%q) = %q, %d, not %q", rows, s, e, want)
		}
	}
}
