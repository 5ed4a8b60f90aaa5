package book_test

import (
	"fmt"
	"math/big"
	"math/rand"
	"regexp"
	"slices"
	"strings"
	"testing"

	"cubit/api"
	"cubit/decl"
	"cubit/house"
	"cubit/ledger"
	"cubit/rat"
)

// short: a thing as text, but not all of it.
func short(v any) string { return fmt.Sprintf("%.300s", fmt.Sprintf("%+q", v)) }

func pick[T any](r *rand.Rand, l ...T) T { return l[r.Intn(len(l))] }

// number: of a text as rat reads it.
func number(text string) api.Rat {
	v, e, _ := rat.Parse(text)
	if e != api.OK {
		panic("no number: " + text)
	}
	return v
}

func ownHouse(t testing.TB) *house.House {
	t.Helper()
	h, e := house.Own()
	if e != api.OK {
		t.Fatal(e)
	}
	return h
}

// otherHouse: one with few units, one of them a scale, that the own one has not, or has otherwise.
func otherHouse(t testing.TB) *house.House {
	t.Helper()
	l, e, at := decl.Parse("base metre m L 1 si\nbase second s T 1 none\nbase kelvin K H 1 none\nprefix kilo k 1000 si\nunit third third 1/3 none m\nscale odd o 3/7 -22/5 K\nalias meter m\n")
	if e != api.OK {
		t.Fatal(e, at)
	}
	h, e, at := house.Build(l)
	if e != api.OK {
		t.Fatal(e, at)
	}
	return h
}

// sample: an entry that can stand in a book.
func sample() api.Entry {
	return api.Entry{Id: 1, What: "length", Value: number("5"), Spread: number("1/10"), Unit: "m", Day: 3}
}

// rarely: another thing than the usual one.
func rarely[T any](r *rand.Rand, usual T, l ...T) T {
	if r.Intn(4) > 0 {
		return usual
	}
	return pick(r, l...)
}

// text: of any bytes, those that part fields often among them.
func text(r *rand.Rand) string {
	var b []byte
	for range r.Intn(6) {
		b = append(b, pick(r, 'a', '\\', '\t', '\n', 't', 'n', ' ', '\r', 0, 0xff, 0xc3, '1', byte(r.Intn(256))))
	}
	return string(b)
}

func chance(r *rand.Rand) api.Entry {
	e := api.Entry{
		Id:     rarely(r, 1+r.Intn(20), 4096, 1),
		Of:     rarely(r, r.Intn(4), 4096, 0),
		Day:    rarely(r, r.Intn(100), 1000000, 0),
		What:   rarely(r, "length", text(r), ""),
		Unit:   rarely(r, "km / h", text(r), ""),
		Value:  number(rarely(r, "5", "-7/3", "0", "1e599", "-1e-599", fmt.Sprint(r.Int63()))),
		Spread: number(rarely(r, "1/10", "0", "1e599", "1e-599")),
		Void:   r.Intn(3) == 0,
	}
	for range rarely(r, 0, 1, 2, 8) {
		e.Tags = append(e.Tags, rarely(r, "dry", text(r), ""))
	}
	return e
}

var (
	signed = regexp.MustCompile(`^(0|-?[1-9][0-9]*)$`)
	above  = regexp.MustCompile(`^[1-9][0-9]*$`)
)

func isRight(v api.Rat) bool {
	if !signed.MatchString(v.Num) || !above.MatchString(v.Den) {
		return false
	}
	b, _ := new(big.Rat).SetString(v.Num + "/" + v.Den)
	return b.Num().String() == v.Num && b.Denom().String() == v.Den && len(strings.TrimPrefix(v.Num, "-")) <= 600 && len(v.Den) <= 600
}

// fault: of an entry, in the chapter's order.
func fault(e api.Entry) api.Errno {
	for _, rule := range []struct {
		applies bool
		why     api.Errno
	}{
		{e.Id < 1 || e.Id > 4096, api.ErrArg},
		{e.Of < 0 || e.Of > 4096, api.ErrArg},
		{e.Day < 0 || e.Day > 1000000, api.ErrArg},
		{!isRight(e.Value) || !isRight(e.Spread), api.ErrForm},
		{strings.HasPrefix(e.Spread.Num, "-"), api.ErrBelow},
		{len(e.Tags) > 8, api.ErrSize},
	} {
		if rule.applies {
			return rule.why
		}
	}
	return api.OK
}

func written(v api.Rat) string { return strings.TrimSuffix(v.Num+"/"+v.Den, "/1") }

// lineOf: an entry that can stand in a book, written in another way.
func lineOf(e api.Entry) string {
	escape := func(s string) string {
		s = strings.ReplaceAll(s, "\\", "\\\\")
		s = strings.ReplaceAll(s, "\t", "\\t")
		return strings.ReplaceAll(s, "\n", "\\n")
	}
	mark := "+"
	if e.Void {
		mark = "x"
	}
	s := fmt.Sprintf("%d\t%d\t%d\t%s\t%s\t%s\t%s\t%s", e.Id, e.Of, e.Day, mark, escape(e.What), written(e.Value), written(e.Spread), escape(e.Unit))
	for _, tag := range e.Tags {
		s += "\t" + escape(tag)
	}
	return s + "\n"
}

// printModel: P29.1.
func printModel(l []api.Entry) (string, api.Errno, int) {
	all := ""
	for at, e := range l {
		if why := fault(e); why != api.OK {
			return "", why, at
		}
	}
	for _, e := range l {
		all += lineOf(e)
	}
	if len(all) > 65536 || len(l) > 4096 {
		return "", api.ErrSize, 0
	}
	return all, api.OK, 0
}

const (
	wholeForm = `(0|[1-9][0-9]*)`
	textForm  = `((?:[^\\\t\n]|\\[\\tn])*)`
	anyForm   = `([^\t\n]*)`
)

var (
	lineForm = regexp.MustCompile(`(?s)^` + strings.Join([]string{wholeForm, wholeForm, wholeForm, `([+x])`, textForm, anyForm, anyForm, textForm}, `\t`) + `((?:\t(?:[^\\\t\n]|\\[\\tn])*)*)\n$`)
	escape   = regexp.MustCompile(`\\.`)
)

// readModel: the entry of a line, and the error of one that can not be.
func readModel(s string) (api.Entry, api.Errno) {
	m := lineForm.FindStringSubmatch(s)
	if m == nil {
		return api.Entry{}, api.ErrLine
	}
	whole := func(s string) int {
		b, _ := new(big.Int).SetString(s, 10)
		if !b.IsInt64() {
			return 1 << 62
		}
		return int(b.Int64())
	}
	plain := func(s string) string {
		return escape.ReplaceAllStringFunc(s, func(s string) string {
			return map[string]string{`\\`: `\`, `\t`: "\t", `\n`: "\n"}[s]
		})
	}
	e := api.Entry{Id: whole(m[1]), Of: whole(m[2]), Day: whole(m[3]), Void: m[4] == "x", What: plain(m[5]), Unit: plain(m[8])}
	for i, v := range []*api.Rat{&e.Value, &e.Spread} {
		var why api.Errno
		if *v, why, _ = rat.Parse(m[6+i]); why != api.OK {
			return api.Entry{}, why
		}
		if written(*v) != m[6+i] {
			return api.Entry{}, api.ErrForm
		}
	}
	for _, tag := range strings.Split(m[9], "\t")[1:] {
		e.Tags = append(e.Tags, plain(tag))
	}
	if why := fault(e); why != api.OK {
		return api.Entry{}, why
	}
	return e, api.OK
}

// parseModel: P29.1.
func parseModel(s string) ([]api.Entry, api.Errno, int) {
	if len(s) > 65536 || strings.Count(s, "\n") > 4096 {
		return nil, api.ErrSize, 0
	}
	var l []api.Entry
	for at, line := range strings.SplitAfter(s, "\n") {
		if line == "" {
			break
		}
		e, why := readModel(line)
		if why != api.OK {
			return nil, why, at
		}
		l = append(l, e)
	}
	return l, api.OK, 0
}

func sameEntry(a, b api.Entry) bool {
	return a.Id == b.Id && a.What == b.What && a.Value == b.Value && a.Spread == b.Spread && a.Unit == b.Unit && a.Day == b.Day && slices.Equal(a.Tags, b.Tags) && a.Of == b.Of && a.Void == b.Void
}

func sameEntries(a, b []api.Entry) bool { return slices.EqualFunc(a, b, sameEntry) }

func cloned(l []api.Entry) []api.Entry {
	l = slices.Clone(l)
	for i := range l {
		l[i].Tags = slices.Clone(l[i].Tags)
	}
	return l
}

// grown: a ledger after some changes.
func grown(r *rand.Rand, h *house.House, changes int) *ledger.Ledger {
	l := ledger.New(h)
	for range changes {
		e := chance(r)
		e.What = pick(r, "length", "heat", `a\b`)
		e.Unit = pick(r, "m", "km", " ( s ) ", "K", "o", "degF", "m\t/ s", "s\n", "third", "km / m")
		e.Tags = slices.DeleteFunc([]string{"dry", "wet", `\t`}, func(string) bool { return r.Intn(2) == 0 })
		switch r.Intn(5) {
		case 0:
			l.Void(1 + r.Intn(l.Len()+1))
		case 1, 2:
			id := 1 + r.Intn(l.Len()+1)
			if old, why := l.Get(id); why == api.OK {
				e.What, e.Unit = old.What, rarely(r, old.Unit, e.Unit)
			}
			l.Correct(id, e)
		default:
			l.Add(e)
		}
	}
	return l
}
