package load_test

import (
	"math"
	"math/rand"
	"reflect"
	"slices"
	"testing"

	"foghorn/api"
	"foghorn/load"
)

type L = load.Load

var (
	nothing   = []int{0, 2, 4, 5, 6, 7, 8}
	energies  = map[int]int{0: 0, 2: 2, 4: 10, 5: 20, 6: 42, 7: 82, 8: 170}
	noWeights = [][]int{nil, {0}, {1, -1}, {load.MaxWeight + 1}, make([]int, 257), slices.Repeat([]int{1}, 257)}
)

func row(s string) []bool {
	l := make([]bool, len(s))
	for i := range s {
		l[i] = s[i] == '1'
	}
	return l
}

func TestP27_1Costs(t *testing.T) {
	for bits := -1; bits <= 9; bits++ {
		energy, ok := energies[bits]
		size, e := load.Size(bits)
		if want := ok && bits > 0; (e == api.OK) != want || want && size != 1<<bits || !want && (size != 0 || e != api.ErrArg) {
			t.Error("Size:", bits, size, e)
		}
		cost, e := load.Cost(3, bits)
		if (e == api.OK) != ok || ok && cost != 3*energy || !ok && (cost != 0 || e != api.ErrArg) {
			t.Error("Cost:", bits, cost, e)
		}
	}
	for _, weight := range []int{0, -1, load.MaxWeight + 1, math.MinInt, math.MaxInt} {
		if cost, e := load.Cost(weight, 2); cost != 0 || e != api.ErrArg {
			t.Error("Cost:", weight, cost, e)
		}
	}
	for halved, want := range map[int]int{0: 1, 1: 4, 2: 16, 10: 1 << 20} {
		if w, e := load.Weight(halved); w != want || e != api.OK {
			t.Error("Weight:", halved, w, e)
		}
	}
	for _, halved := range []int{-1, 11, math.MaxInt} {
		if w, e := load.Weight(halved); w != 0 || e != api.ErrArg {
			t.Error("Weight:", halved, w, e)
		}
	}
	if l, e := load.Check([]int{3, 1}, []int{4, 0}); !reflect.DeepEqual(l, L{[]int{4, 0}, 4, 30}) || e != api.OK {
		t.Error("Check:", l, e)
	}
	for _, c := range [][2][]int{{{1}, {1}}, {{1}, nil}, {{1}, {2, 2}}, {nil, nil}, {{0}, {2}}, {{1}, {9}}} {
		if l, e := load.Check(c[0], c[1]); l.Bits != nil || l.All != 0 || e != api.ErrArg {
			t.Error("Check:", c, l, e)
		}
	}
}

func TestP27_2Loads(t *testing.T) {
	for _, c := range []struct {
		f       func([]int, int) (L, api.Errno)
		weights []int
		n       int
		want    L
		e       api.Errno
	}{
		{load.Most, []int{1}, 9, L{[]int{2}, 2, 2}, api.OK}, {load.Most, []int{1}, 10, L{[]int{4}, 4, 10}, api.OK}, {load.Most, []int{1, 1}, 12, L{[]int{4, 2}, 6, 12}, api.OK}, {load.Most, []int{1, 4}, 12, L{[]int{4, 0}, 4, 10}, api.OK},
		{load.Most, []int{1, 1}, 3, L{[]int{2, 0}, 2, 2}, api.OK}, {load.Squares, []int{1}, 20, L{[]int{4}, 4, 10}, api.OK}, {load.Most, []int{1}, 20, L{[]int{5}, 5, 20}, api.OK}, {load.Most, []int{7}, 0, L{[]int{0}, 0, 0}, api.OK},
		{load.Least, []int{1, 1}, 4, L{[]int{2, 2}, 4, 4}, api.OK}, {load.Least, []int{1, 1}, 3, L{}, api.ErrNone}, {load.Least, []int{1, 1}, 0, L{[]int{0, 0}, 0, 0}, api.OK}, {load.Least, []int{1}, 9, L{}, api.ErrNone}, {load.Least, []int{1}, math.MaxInt, L{}, api.ErrNone}, {load.Least, []int{1}, -1, L{}, api.ErrArg},
		{load.Most, []int{1}, -1, L{}, api.ErrArg}, {load.Most, []int{1}, load.MaxPower + 1, L{}, api.ErrArg}, {load.Squares, []int{1}, -1, L{}, api.ErrArg}, {load.Most, []int{1}, load.MaxPower, L{[]int{8}, 8, 170}, api.OK},
	} {
		if l, e := c.f(c.weights, c.n); !reflect.DeepEqual(l, c.want) || e != c.e {
			t.Error("a load:", c.weights, c.n, l, e)
		}
	}
	for _, weights := range noWeights {
		for _, f := range []func([]int, int) (L, api.Errno){load.Most, load.Least, load.Squares} {
			if l, e := f(weights, 9); !reflect.DeepEqual(l, L{}) || e != api.ErrArg {
				t.Error("no weights:", len(weights), l, e)
			}
		}
	}
	many := slices.Repeat([]int{load.MaxWeight}, api.MaxTones)
	if l, e := load.Most(many, load.MaxPower); l.All != 2048 || l.Power != 170*256<<20 || e != api.OK {
		t.Error("the greatest load:", l.All, l.Power, e)
	}
}

func TestP27_3And6Deal(t *testing.T) {
	l, e := load.Deal([]int{2, 0, 4}, row("110011000011"))
	if e != api.OK || !slices.Equal(l[0], row("1100")) || len(l[1]) != 0 || !slices.Equal(l[2], row("00110011")) {
		t.Error("Deal:", l, e)
	}
	if back, e := load.Gather([]int{2, 0, 4}, l); e != api.OK || !slices.Equal(back, row("110011000011")) {
		t.Error("Gather:", back, e)
	}
	if l, e := load.Deal([]int{0}, nil); len(l) != 1 || len(l[0]) != 0 || e != api.OK {
		t.Error("Deal of nothing:", l, e)
	}
	if l, e := load.Gather([]int{0, 2}, [][]bool{nil, nil}); len(l) != 0 || e != api.OK {
		t.Error("Gather of nothing:", l, e)
	}
	for _, c := range []struct {
		bits []int
		n    int
	}{{[]int{0}, 1}, {[]int{3}, 0}, {nil, 0}, {slices.Repeat([]int{2}, 257), 0}, {[]int{2, 4}, 5}, {[]int{2}, api.MaxBits + 2}} {
		if l, e := load.Deal(c.bits, make([]bool, c.n)); l != nil || e != api.ErrArg {
			t.Error("Deal:", c.n, e)
		}
	}
	half := make([]bool, api.MaxBits/2+2)
	for _, c := range []struct {
		bits []int
		rows [][]bool
	}{{[]int{3}, [][]bool{nil}}, {[]int{2}, nil}, {[]int{2}, [][]bool{nil, nil}}, {[]int{2, 4}, [][]bool{row("11"), row("11")}}, {[]int{2, 2}, [][]bool{row("1"), row("111")}}, {[]int{0, 2}, [][]bool{row("1"), row("1")}}, {[]int{0}, [][]bool{row("1")}}, {[]int{2, 2}, [][]bool{half, half}}, {nil, nil}, {[]int{2}, [][]bool{row("111")}}} {
		if l, e := load.Gather(c.bits, c.rows); l != nil || e != api.ErrArg {
			t.Error("Gather:", c.bits, e)
		}
	}
	r := rand.New(rand.NewSource(1))
	for range 200 {
		bits, all := make([]int, 1+r.Intn(6)), 0
		for i := range bits {
			bits[i] = nothing[r.Intn(7)]
			all += bits[i]
		}
		l := make([]bool, all*r.Intn(9))
		for i := range l {
			l[i] = r.Intn(2) == 1
		}
		rows, _ := load.Deal(bits, l)
		back, e := load.Gather(bits, rows)
		if again, _ := load.Deal(bits, back); e != api.OK || !slices.Equal(back, l) || !reflect.DeepEqual(again, rows) {
			t.Fatal("Gather of Deal:", bits, len(l), e)
		}
	}
}

// loads are all loads of so many carriers, the first one first.
func loads(n int) [][]int {
	if n == 0 {
		return [][]int{nil}
	}
	var out [][]int
	for _, bits := range slices.Backward(nothing) {
		for _, rest := range loads(n - 1) {
			out = append(out, append([]int{bits}, rest...))
		}
	}
	return out
}

func TestP27_4And5NoOther(t *testing.T) {
	r := rand.New(rand.NewSource(2))
	for range 60 {
		weights := make([]int, 1+r.Intn(3))
		for i := range weights {
			weights[i] = 1 + r.Intn(6)
		}
		power, all := r.Intn(500), r.Intn(20)
		var most, least, squares L
		found := false
		for _, bits := range loads(len(weights)) {
			l, _ := load.Check(weights, bits)
			better := func(than L) bool {
				return than.Bits == nil || l.All > than.All || l.All == than.All && l.Power < than.Power
			}
			if l.Power <= power && better(most) {
				most = l
			}
			if l.Power <= power && better(squares) && !slices.ContainsFunc(bits, func(n int) bool { return n%2 != 0 }) {
				squares = l
			}
			if l.All == all && (!found || l.Power < least.Power) {
				least, found = l, true
			}
		}
		if l, e := load.Most(weights, power); !reflect.DeepEqual(l, most) || e != api.OK {
			t.Fatal("Most:", weights, power, l, most)
		}
		if l, e := load.Squares(weights, power); !reflect.DeepEqual(l, squares) || e != api.OK {
			t.Fatal("Squares:", weights, power, l, squares)
		}
		if l, e := load.Least(weights, all); !reflect.DeepEqual(l, least) || (e == api.OK) != found {
			t.Fatal("Least:", weights, all, l, least, e)
		}
		back, _ := load.Most(weights, least.Power)
		more, _ := load.Most(append(slices.Clone(weights), 3), power)
		high, _ := load.Most(weights, power+1)
		other := slices.Clone(weights)
		slices.Reverse(other)
		turned, _ := load.Most(other, power)
		for i := range other {
			other[i] = 5 * weights[i]
		}
		times, _ := load.Most(other, 5*power)
		if back.All < least.All || more.All < most.All || high.All < most.All || squares.All > most.All || turned.All != most.All || turned.Power != most.Power || !slices.Equal(times.Bits, most.Bits) {
			t.Fatal("what follows:", weights, power)
		}
	}
}
