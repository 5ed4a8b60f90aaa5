package show

import (
	"slices"
	"strings"

	"cubit/api"
)

// How many rows a table may have, and how many cells a row.
const (
	mostRows  = 1000
	mostCells = 100
)

// between: two columns.
const between = "  "

// Table: rows of texts as columns, side by side.
func Table(rows [][]string) (string, api.Errno) {
	if len(rows) > mostRows || slices.ContainsFunc(rows, isGreat) {
		return "", api.ErrSize
	}
	columns := columnsOf(rows)
	switch {
	case sizeInAll(rows, columns) > api.MaxText:
		return "", api.ErrSize
	case slices.ContainsFunc(rows, hasControls):
		return "", api.ErrForm
	}
	return laid(rows, columns), api.OK
}

// isGreat: is a row too great by itself? What is not has sums that stay small.
func isGreat(cells []string) bool {
	isLong := func(cell string) bool { return len(cell) > api.MaxText }
	return len(cells) > mostCells || slices.ContainsFunc(cells, isLong)
}

// hasControls: is there a byte that would break a line, or the like?
func hasControls(cells []string) bool {
	for _, cell := range cells {
		for i := range len(cell) {
			if cell[i] < ' ' {
				return true
			}
		}
	}
	return false
}

// column: how wide it is, by what stands in it, whatever kind of text that is.
type column[C ~string] struct {
	width int
}

func (c column[C]) widened(cell C) column[C] { return column[C]{max(c.width, len(cell))} }

// filled: a cell with the blanks that it lacks.
func (c column[C]) filled(cell C) string {
	return string(cell) + strings.Repeat(" ", c.width-len(cell))
}

func columnsOf(rows [][]string) []column[string] {
	var columns []column[string]
	for _, cells := range rows {
		for i, cell := range cells {
			if i == len(columns) {
				columns = append(columns, column[string]{})
			}
			columns[i] = columns[i].widened(cell)
		}
	}
	return columns
}

// row: its last cell, and those ahead of it, which are filled up.
type row struct {
	ahead []string
	last  string
}

// cut off with a bound on its room, so that nothing can come in the place of the last cell.
func cut(cells []string) row {
	if len(cells) == 0 {
		return row{}
	}
	last := len(cells) - 1
	return row{cells[:last:last], cells[last]}
}

// sizeInAll: how many bytes the table has; of one that has too many it may tell fewer, but too many.
func sizeInAll(rows [][]string, columns []column[string]) int {
	size := 0
	for _, cells := range rows {
		r := cut(cells)
		for i := range r.ahead {
			size += columns[i].width + len(between)
		}
		size += len(r.last) + 1
		if size > api.MaxText {
			break
		}
	}
	return size
}

// laid: the rows as lines. Those that are told go out of those that wait.
func laid(rows [][]string, columns []column[string]) string {
	wait := make(map[int]row)
	for n, cells := range rows {
		wait[n] = cut(cells)
	}
	text := strings.Builder{}
	for n := 0; len(wait) > 0; n++ {
		r := wait[n]
		delete(wait, n)
		for i, cell := range r.ahead {
			text.WriteString(columns[i].filled(cell))
			text.WriteString(between)
		}
		text.WriteString(r.last)
		text.WriteString("\n")
	}
	return text.String()
}
