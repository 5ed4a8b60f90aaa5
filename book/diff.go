package book

import (
	"maps"
	"slices"
	"strconv"

	"cubit/api"
)

// Diff: what is another one in two lists, by their numbers.
func Diff(a, b []api.Entry) []string {
	one, other := firsts(a), firsts(b)
	var lines []string
	for _, id := range idsOf(one, other) {
		i, inOne := one[id]
		j, inOther := other[id]
		switch {
		case !inOther:
			lines = append(lines, noted("-", id))
		case !inOne:
			lines = append(lines, noted("+", id))
		default:
			if fields := differing(a[i], b[j]); len(fields) > 0 {
				lines = append(lines, noted("~", id, fields...))
			}
		}
	}
	return lines
}

// firsts: where in a list each number stands for the first time.
func firsts(l []api.Entry) map[int]int {
	at := make(map[int]int)
	for i, e := range l {
		if _, known := at[e.Id]; !known {
			at[e.Id] = i
		}
	}
	return at
}

// idsOf: all numbers, rising.
func idsOf(one, other map[int]int) []int {
	ids := slices.AppendSeq(slices.Collect(maps.Keys(one)), maps.Keys(other))
	slices.Sort(ids)
	return slices.Compact(ids)
}

func noted(mark string, id int, fields ...string) string {
	return joined(" ", append([]string{mark, strconv.Itoa(id)}, fields...)...)
}

// differing: the names of the fields that differ; a list without tags is one, nil or not.
func differing(a, b api.Entry) []string {
	var names []string
	for _, field := range []struct {
		name string
		same bool
	}{
		{"What", a.What == b.What},
		{"Value", a.Value == b.Value},
		{"Spread", a.Spread == b.Spread},
		{"Unit", a.Unit == b.Unit},
		{"Day", a.Day == b.Day},
		{"Tags", slices.Equal(a.Tags, b.Tags)},
		{"Of", a.Of == b.Of},
		{"Void", a.Void == b.Void},
	} {
		if !field.same {
			names = append(names, field.name)
		}
	}
	return names
}
