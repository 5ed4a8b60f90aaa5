package ledger

import (
	"slices"

	"cubit/api"
	"cubit/conv"
	"cubit/house"
	"cubit/rat"
)

// lastDay: the greatest number of a day.
const lastDay = 1000000

// checked: the unit of an entry that is right in a house; or what is wrong with it.
func checked(h *house.House, e api.Entry) (api.Unit, api.Errno) {
	if !isWord(e.What) || !rat.Right(e.Value) || !rat.Right(e.Spread) {
		return api.Unit{}, api.ErrForm
	}
	if sign, _ := rat.Sign(e.Spread); sign < 0 {
		return api.Unit{}, api.ErrBelow
	}
	unit, why, _ := conv.Unit(h, e.Unit)
	switch {
	case why != api.OK:
		return api.Unit{}, why
	case e.Day < 0 || e.Day > lastDay:
		return api.Unit{}, api.ErrArg
	}
	if why := checkedTags(e.Tags); why != api.OK {
		return api.Unit{}, why
	}
	return unit, api.OK
}

func checkedTags(tags []string) api.Errno {
	switch {
	case len(tags) > api.MaxTags:
		return api.ErrSize
	case slices.ContainsFunc(tags, func(tag string) bool { return !isWord(tag) }):
		return api.ErrForm
	case hasTwice(tags):
		return api.ErrTwice
	}
	return api.OK
}

func hasTwice(tags []string) bool {
	for i, tag := range tags {
		if slices.Contains(tags[:i], tag) {
			return true
		}
	}
	return false
}

// isWord: may it stand as What, or as a tag?
func isWord(s string) bool {
	if s == "" || len(s) > api.MaxName {
		return false
	}
	for i := range len(s) {
		if s[i] < 33 || s[i] > 126 {
			return false
		}
	}
	return true
}
