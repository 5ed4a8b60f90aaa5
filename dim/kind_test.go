package dim_test

import (
	"math/rand"
	"strings"
	"testing"

	"cubit/api"
	"cubit/dim"
)

// table: the kinds with their dimensions, as the chapter has them.
const table = `number 1
length L
mass M
time T
current I
temperature H
amount N
light J
information B
volume L^3
speed L T^-1
force L M T^-2
energy L^2 M T^-2
density L^-3 M
action L^2 M T^-1
charge T I
voltage L^2 M T^-3 I^-1
resistance L^2 M T^-3 I^-2
conductance L^-2 M^-1 T^3 I^2
capacitance L^-2 M^-1 T^4 I^2
inductance L^2 M T^-2 I^-2
flux L^2 M T^-2 I^-1
field M T^-2 I^-1
area L^2
frequency T^-1
acceleration L T^-2
pressure L^-1 M T^-2
power L^2 M T^-3
momentum L M T^-1
entropy L^2 M T^-2 H^-1`

// P5.4, P5.7.
func TestKinds(t *testing.T) {
	known := map[api.Dim]string{}
	for _, line := range strings.Split(table, "\n") {
		name, text, _ := strings.Cut(line, " ")
		want, e, _ := dim.Parse(text)
		if d, ok := dim.Of(name); d != want || !ok || e != api.OK {
			t.Errorf("Of(%s) = %v, %v, not %v", name, d, ok, want)
		}
		if k, ok := dim.Kind(want); k != name || !ok {
			t.Errorf("Kind(%s) = %s, %v, not %s", text, k, ok, name)
		}
		known[want] = name
	}
	if len(known) != 30 {
		t.Error(len(known), "kinds")
	}
	r := rand.New(rand.NewSource(54))
	for range 20000 {
		d := chance(r, 3)
		if r.Intn(2) == 0 {
			d[3], d[4], d[5], d[6], d[7] = 0, 0, 0, 0, 0
		}
		name, is := known[d]
		if k, ok := dim.Kind(d); k != name || ok != is {
			t.Errorf("Kind(%v) = %q, %v", d, k, ok)
		}
	}
}

// P5.4: what is no kind, and what is not right.
func TestNoKinds(t *testing.T) {
	for _, s := range []string{"", "weight", "1", "L", "Length", "length ", " length", "lengths", "lengt", "torque", "\xff", strings.Repeat("x", 1<<16)} {
		if d, ok := dim.Of(s); d != (api.Dim{}) || ok {
			t.Errorf("Of(%.20q) = %v, %v", s, d, ok)
		}
	}
	for _, d := range append(wrongs(), all(1), api.Dim{0, 2}, api.Dim{4}, api.Dim{-1}, api.Dim{0, 0, 2}) {
		if k, ok := dim.Kind(d); k != "" || ok {
			t.Errorf("Kind(%v) = %q, %v", d, k, ok)
		}
	}
}
