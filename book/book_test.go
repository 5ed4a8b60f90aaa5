package book_test

import (
	"fmt"
	"math"
	"math/rand"
	"slices"
	"strings"
	"sync"
	"testing"
	"time"

	"cubit/api"
	"cubit/book"
	"cubit/rat"
)

func checkPrint(t *testing.T, l []api.Entry) api.Errno {
	t.Helper()
	text, why, at := book.Print(l)
	want, fault, place := printModel(l)
	if text != want || why != fault || at != place {
		t.Errorf("Print(%s) = %s, %d, %d, not %s, %d, %d", short(l), short(text), why, at, short(want), fault, place)
	}
	return why
}

func checkParse(t *testing.T, text string) api.Errno {
	t.Helper()
	l, why, at := book.Parse(text)
	want, fault, place := parseModel(text)
	if !sameEntries(l, want) || why != fault || at != place {
		t.Errorf("Parse(%s) = %s, %d, %d, not %s, %d, %d", short(text), short(l), why, at, short(want), fault, place)
	}
	return why
}

// The chapter's example.
func TestExample(t *testing.T) {
	text, why, at := book.Print([]api.Entry{sample()})
	if text != "1\t0\t3\t+\tlength\t5\t1/10\tm\n" || why != api.OK || at != 0 {
		t.Error(text, why, at)
	}
	if l, why, at := book.Parse(text); !sameEntries(l, []api.Entry{sample()}) || why != api.OK || at != 0 {
		t.Error(l, why, at)
	}
	if l, why, at := book.Parse("x"); len(l) > 0 || why != api.ErrLine || at != 0 {
		t.Error(l, why, at)
	}
}

// P29.1: Print, of texts with all that parts lines and fields.
func TestPrint(t *testing.T) {
	odd := api.Entry{Id: 4096, Of: 7, Day: 1000000, Void: true, What: "\\\t\n", Value: number("-1/3"), Spread: rat.Of(0), Unit: "", Tags: []string{"", "a\\t", "\r\xff", "\n\n"}}
	text, why, at := book.Print([]api.Entry{odd, sample()})
	want := "4096\t7\t1000000\tx\t\\\\\\t\\n\t-1/3\t0\t\t\ta\\\\t\t\r\xff\t\\n\\n\n" + "1\t0\t3\t+\tlength\t5\t1/10\tm\n"
	if text != want || why != api.OK || at != 0 {
		t.Errorf("%q, %d, %d", text, why, at)
	}
	bare := api.Entry{Id: 1, Value: rat.Of(0), Spread: rat.Of(0)}
	if text, why, _ := book.Print([]api.Entry{bare, bare}); text != strings.Repeat("1\t0\t0\t+\t\t0\t0\t\n", 2) || why != api.OK {
		t.Errorf("%q, %d", text, why)
	}
	for _, l := range [][]api.Entry{nil, {}} {
		if text, why, at := book.Print(l); text != "" || why != api.OK || at != 0 {
			t.Error(text, why, at)
		}
	}
	r := rand.New(rand.NewSource(291))
	for range 3000 {
		l := make([]api.Entry, r.Intn(4))
		for i := range l {
			l[i] = chance(r)
		}
		if why := checkPrint(t, l); why != api.OK {
			t.Errorf("Print(%s): %d", short(l), why)
		}
	}
}

// spoilers: what an entry can not stand with, in the order in which it is told.
func spoilers() []func(*api.Entry) {
	var all []func(*api.Entry)
	for _, n := range []int{0, -1, 4097, math.MinInt, math.MaxInt} {
		all = append(all, func(e *api.Entry) { e.Id = n })
	}
	for _, n := range []int{-1, 4097, math.MinInt, math.MaxInt} {
		all = append(all, func(e *api.Entry) { e.Of = n })
	}
	for _, n := range []int{-1, 1000001, math.MinInt, math.MaxInt} {
		all = append(all, func(e *api.Entry) { e.Day = n })
	}
	for _, v := range []api.Rat{{}, {Num: "2", Den: "4"}, {Num: "1", Den: "0"}, {Num: "1", Den: ""}, {Num: "01", Den: "1"}, {Num: "-0", Den: "1"}, {Num: "0", Den: "2"}, {Num: "1" + strings.Repeat("0", 600), Den: "1"}, {Num: "x", Den: "1"}, {Num: "1\n", Den: "1"}} {
		all = append(all, func(e *api.Entry) { e.Value = v }, func(e *api.Entry) { e.Spread = v })
	}
	for _, s := range []string{"-1", "-1/3", "-1e599", "-1e-599"} {
		all = append(all, func(e *api.Entry) { e.Spread = number(s) })
	}
	return append(all, func(e *api.Entry) { e.Tags = make([]string, 9) })
}

// P29.1: each fault alone, each two of them in one entry, or in two; they go ahead of ErrSize.
func TestPrintRefused(t *testing.T) {
	for i, first := range spoilers() {
		e := sample()
		first(&e)
		if why := checkPrint(t, []api.Entry{sample(), sample(), e, {}}); why == api.OK {
			t.Errorf("%s stands", short(e))
		}
		for _, second := range spoilers()[i:] {
			both, other := e, sample()
			second(&both)
			second(&other)
			checkPrint(t, []api.Entry{sample(), both})
			checkPrint(t, []api.Entry{other, e})
		}
	}
	long := sample()
	long.What = strings.Repeat("a", 70000)
	for _, l := range [][]api.Entry{{long, {}}, append(make([]api.Entry, 5000), sample()), append(slices.Repeat([]api.Entry{sample()}, 5000), api.Entry{})} {
		if why := checkPrint(t, l); why != api.ErrArg {
			t.Error(why)
		}
	}
}

// P29.1: the greatest texts, and one byte more; the most entries, and one more.
func TestPrintSize(t *testing.T) {
	whole := sample()
	whole.Unit = strings.Repeat("m", 65536-len(lineOf(sample()))+1)
	whole.What = "lengt" + "h"
	if text, why, _ := book.Print([]api.Entry{whole}); len(text) != 65536 || why != api.OK {
		t.Error(len(text), why)
	}
	for _, more := range []string{"x", "\t", "\\", "\n"} {
		e := whole
		e.What = "lengt" + more + more
		if text, why, at := book.Print([]api.Entry{e}); text != "" || why != api.ErrSize || at != 0 {
			t.Error(len(text), why, at)
		}
	}
	if why := checkPrint(t, []api.Entry{sample(), whole}); why != api.ErrSize {
		t.Error(why)
	}
	escaped := sample()
	escaped.What = strings.Repeat("\t", (65536-len(lineOf(sample()))+6)/2)
	if why := checkPrint(t, []api.Entry{escaped}); why != api.OK {
		t.Error(why)
	}
	escaped.What += "\n"
	if why := checkPrint(t, []api.Entry{escaped}); why != api.ErrSize {
		t.Error(why)
	}
	bare := slices.Repeat([]api.Entry{{Id: 1, Value: rat.Of(0), Spread: rat.Of(0)}}, 4097)
	if text, why, _ := book.Print(bare[:4096]); len(text) != 14*4096 || why != api.OK {
		t.Error(len(text), why)
	}
	if text, why, at := book.Print(bare); text != "" || why != api.ErrSize || at != 0 {
		t.Error(len(text), why, at)
	}
}

// lines: some that can be, and many that can not.
func lines() []string {
	good := lineOf(sample())
	parts := strings.Split(strings.TrimSuffix(good, "\n"), "\t")
	all := []string{good, "", "\n", "\t\n", "x\n", strings.TrimSuffix(good, "\n"), strings.Repeat("\t", 7) + "\n", good[2:]}
	for i, others := range [][]string{
		{"", "01", "00", "0", "-1", "+1", "4096", "4097", "1.0", "1e0", " 1", "1 ", "\u0661", "99999999999999999999999", "9223372036854775808", "18446744073709551617", "x", "\\t", "1_0", "0x1"},
		{"", "00", "0", "1", "-0", "-1", "+0", "4096", "4097", "0 ", "99999999999999999999999", "18446744073709551616"},
		{"", "03", "0", "-3", "1000000", "1000001", "4294967296", "99999999999999999999999"},
		{"", "-", "++", "X", "x", " +", "+x", "\\+"},
		{"", "\\", "a\\", "\\\\", "\\\\\\", "\\t", "\\n", "\\r", "\\x", "\\\\t", "a\\\\\\n", "\xff", "\\\xff", "\r", " ", strings.Repeat("w", 500)},
		{"", "0", "-0", "00", "05", "-5", "+5", "5.0", "5e0", "10/2", "5/1", "1/3", "-1/3", "2/6", "1/0", "0/1", "0/0", "1/-3", "\\5", "5\\", "x", " 5", "5 ", "1e599", "1" + strings.Repeat("0", 599), "1" + strings.Repeat("0", 600), "1e99999", "1/1" + strings.Repeat("0", 599), "1/1" + strings.Repeat("0", 600), strings.Repeat("0", 700)},
		{"", "0", "-0", "-1/10", "-1", "0.1", "1/10", "2/20", "1/0", "1\\n0", "1e-1", "x", "1/1" + strings.Repeat("0", 600)},
		{"", "\\", "\\q", "km / h", "\\n", "m\\t", "\\\\", "\xff\xfe", "m\r"},
	} {
		for _, other := range others {
			changed := slices.Clone(parts)
			changed[i] = other
			all = append(all, strings.Join(changed, "\t")+"\n")
		}
		all = append(all, strings.Join(slices.Delete(slices.Clone(parts), i, i+1), "\t")+"\n")
	}
	for _, tags := range []string{"\t", "\ta", "\t\t\t", "\ta\tb\tc\td\te\tf\tg\th", "\ta\tb\tc\td\te\tf\tg\th\ti", "\t\\", "\t\\a", "\t\\\\", "\ta\ta", "\t \xff"} {
		all = append(all, strings.TrimSuffix(good, "\n")+tags+"\n")
	}
	return all
}

// P29.1: Parse of lines of all kinds, and of each two of them.
func TestParse(t *testing.T) {
	r := rand.New(rand.NewSource(292))
	told := make(map[api.Errno]int)
	for _, l := range lines() {
		told[checkParse(t, l)]++
		checkParse(t, lineOf(sample())+l)
		checkParse(t, l+lineOf(sample()))
		checkParse(t, pick(r, lines()...)+l)
	}
	for _, why := range []api.Errno{api.OK, api.ErrLine, api.ErrArg, api.ErrForm, api.ErrBelow, api.ErrSize, api.ErrZero, api.ErrLarge} {
		if told[why] == 0 {
			t.Errorf("none is told %d", why)
		}
	}
}

// P29.1: the order in which a line's faults are told.
func TestParseOrder(t *testing.T) {
	tags := strings.Repeat("\ta", 9)
	for _, c := range []struct {
		line string
		why  api.Errno
	}{
		{"0\t0\t0\t+\ta\t1/0\t2/4\tm" + tags + "\\", api.ErrLine},
		{"0\t0\t0\t+\ta\t1/0\t2/4\t\\m" + tags, api.ErrLine},
		{"0\t0\t0\t+\ta\\\t1/0\t2/4\tm" + tags, api.ErrLine},
		{"0\t0\t0\t-\ta\t1/0\t2/4\tm" + tags, api.ErrLine},
		{"0\t0\t00\t+\ta\t1/0\t2/4\tm" + tags, api.ErrLine},
		{"0\t-1\t0\t+\ta\t1/0\t2/4\tm" + tags, api.ErrLine},
		{"0\t0\t0\t+\ta\t1/0\t2/4", api.ErrLine},
		{"0\t0\t0\t+\ta\t1/0\t2/4\tm" + tags, api.ErrZero},
		{"0\t0\t0\t+\ta\t1e600\t1/0\tm" + tags, api.ErrLarge},
		{"0\t0\t0\t+\ta\t1e5\t1/0\tm" + tags, api.ErrForm},
		{"0\t0\t0\t+\ta\t1\t1/0\tm" + tags, api.ErrZero},
		{"0\t0\t0\t+\ta\t1\t-2/4\tm" + tags, api.ErrForm},
		{"0\t0\t0\t+\ta\t1\t-1/2\tm" + tags, api.ErrArg},
		{"99999999999999999999\t0\t0\t+\ta\t1\t-1/2\tm" + tags, api.ErrArg},
		{"1\t4097\t0\t+\ta\t1\t-1/2\tm" + tags, api.ErrArg},
		{"1\t0\t1000001\t+\ta\t1\t-1/2\tm" + tags, api.ErrArg},
		{"1\t0\t0\t+\ta\t1\t-1/2\tm" + tags, api.ErrBelow},
		{"1\t0\t0\t+\ta\t1\t1/2\tm" + tags, api.ErrSize},
		{"1\t0\t0\t+\ta\t1\t1/2\tm" + tags[2:], api.OK},
	} {
		if l, why, at := book.Parse(lineOf(sample()) + c.line + "\n"); why != c.why || why != api.OK && (len(l) > 0 || at != 1) {
			t.Errorf("Parse(%q) = %s, %d, %d, not %d", c.line, short(l), why, at, c.why)
		}
		checkParse(t, c.line+"\n")
	}
}

// P29.1: texts with bytes changed, put in and taken out.
func TestParseSpoilt(t *testing.T) {
	r := rand.New(rand.NewSource(293))
	told := make(map[api.Errno]int)
	for range 20000 {
		b := []byte(lineOf(chance(r)) + lineOf(chance(r)))
		for range r.Intn(3) {
			at := r.Intn(len(b))
			put := pick(r, "\t", "\n", "\\", "0", "1", "-", "+", "x", "/", "\xff", "")
			b = slices.Replace(b, at, at+r.Intn(2), []byte(put)...)
		}
		told[checkParse(t, string(b))]++
	}
	if told[api.OK] < 1000 || told[api.ErrLine] < 1000 || told[api.ErrForm] < 300 || told[api.ErrArg] < 20 {
		t.Error(told)
	}
}

// P29.1: the longest text, and one byte more; the most bytes 10, and one more.
func TestParseSize(t *testing.T) {
	e := sample()
	e.What = strings.Repeat("a", 65536-len(lineOf(e))+len(e.What))
	if l, why, _ := book.Parse(lineOf(e)); !sameEntries(l, []api.Entry{e}) || why != api.OK {
		t.Error(short(l), why)
	}
	bare := strings.Repeat("1\t0\t0\t+\t\t0\t0\t\n", 4096)
	if l, why, _ := book.Parse(bare); len(l) != 4096 || why != api.OK {
		t.Error(len(l), why)
	}
	if l, why, _ := book.Parse(bare + bare[:14]); len(l) > 0 || why != api.ErrSize {
		t.Error(len(l), why)
	}
	for text, want := range map[string]api.Errno{
		lineOf(e) + "x": api.ErrSize, "x" + lineOf(e): api.ErrSize, lineOf(e) + "\n": api.ErrSize, strings.Repeat("x", 65537): api.ErrSize, strings.Repeat("x", 65536): api.ErrLine, strings.Repeat("\n", 4097): api.ErrSize, strings.Repeat("\n", 4096): api.ErrLine, strings.Repeat("\n", 4096) + "x": api.ErrLine, lineOf(sample()) + strings.Repeat("\n", 4096): api.ErrSize, strings.Repeat("\t", 65535) + "\n": api.ErrLine, strings.Repeat("\\", 65535) + "\n": api.ErrLine,
	} {
		if l, why, at := book.Parse(text); len(l) > 0 || why != want || at != 0 {
			t.Errorf("Parse(%s): %d, %d, not %d", short(text), why, at, want)
		}
	}
	if l, why, at := book.Parse(bare[:14*4095] + "1\t0\t0\t+\t\t0\t0\t\\"); len(l) > 0 || why != api.ErrLine || at != 4095 {
		t.Error(len(l), why, at)
	}
}

// P29.4, P7: as it was written, both ways.
func TestThereAndBack(t *testing.T) {
	r := rand.New(rand.NewSource(294))
	for range 5000 {
		l := make([]api.Entry, r.Intn(6))
		for i := range l {
			l[i] = chance(r)
		}
		text, why, _ := book.Print(l)
		again, fault, _ := book.Parse(text)
		if why != api.OK || fault != api.OK || !sameEntries(l, again) {
			t.Errorf("%s, printed and read again: %s, %d, %d", short(l), short(again), why, fault)
		}
	}
	for _, text := range lines() {
		if l, why, _ := book.Parse(text); why == api.OK {
			if again, why, _ := book.Print(l); again != text || why != api.OK {
				t.Errorf("%s, read and printed again: %s, %d", short(text), short(again), why)
			}
		}
	}
}

// What is handed in stays as it is, and answers share no memory.
func TestMemory(t *testing.T) {
	r := rand.New(rand.NewSource(295))
	for range 300 {
		l := []api.Entry{chance(r), chance(r), chance(r), {}, {}}
		for i := range l {
			l[i].Tags = append(make([]string, 0, 8), append(l[i].Tags, "a", "b")...)[:len(l[i].Tags)]
		}
		was := cloned(l)
		text, why, _ := book.Print(l[:3])
		book.Diff(l[:3], l[1:3])
		if !sameEntries(l, was) || why != api.OK {
			t.Fatal("changed", why)
		}
		a, _, _ := book.Parse(text)
		b, _, _ := book.Parse(text)
		for i := range a {
			for j := range a[i].Tags {
				a[i].Tags[j] = "changed"
			}
			a[i].Tags = append(a[i].Tags, "more")
		}
		if !sameEntries(b, was[:3]) {
			t.Fatal("two answers share memory")
		}
	}
}

// The same at the same time.
func TestTogether(t *testing.T) {
	h := ownHouse(t)
	var wait sync.WaitGroup
	for n := range 8 {
		wait.Add(1)
		go func() {
			defer wait.Done()
			r := rand.New(rand.NewSource(int64(n)))
			for range 20 {
				l := grown(r, h, 10)
				text, why := book.Save(l)
				again, fault, _ := book.Load(h, text)
				if why != api.OK || fault != api.OK || !sameEntries(l.All(), again.All()) {
					t.Error(short(text), why, fault)
				}
			}
		}()
	}
	wait.Wait()
}

// P1: great lists and long texts end soon.
func TestGreat(t *testing.T) {
	begun := time.Now()
	most := sample()
	most.Value, most.Spread = number("-1e599"), number("1e-599")
	most.What = strings.Repeat("\\", 1<<22)
	l := slices.Repeat([]api.Entry{most}, 200)
	if _, why, _ := book.Print(l); why != api.ErrSize {
		t.Error(why)
	}
	many := slices.Repeat([]api.Entry{sample()}, 300000)
	for i := range many {
		many[i].Id = i % 100003
	}
	if _, why, at := book.Print(many); why != api.ErrArg || at != 0 {
		t.Error(why, at)
	}
	if d := book.Diff(many, many[:50000]); len(d) != 50003 || d[0] != "- 50000" {
		t.Error(len(d))
	}
	if _, why, at := book.Parse(strings.Repeat(fmt.Sprintf("1\t0\t0\t+\t\t%s\t0\t\n", strings.Repeat("9", 599)), 105)); why != api.OK || at != 0 {
		t.Error(why, at)
	}
	if used := time.Since(begun); used > 20*time.Second {
		t.Error(used)
	}
}
