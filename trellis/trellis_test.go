package trellis_test

import (
	"math"
	"math/rand"
	"slices"
	"testing"

	"foghorn/api"
	"foghorn/bits"
	"foghorn/trellis"
)

type C = trellis.Code

func row(s string) []bool {
	l := make([]bool, len(s))
	for i := range s {
		l[i] = s[i] == '1'
	}
	return l
}

func some(r *rand.Rand, n int) []bool {
	l := make([]bool, n)
	for i := range l {
		l[i] = r.Intn(2) == 1
	}
	return l
}

// code is one at random.
func code(r *rand.Rand) C {
	for {
		n := 2 + r.Intn(6)
		c := C{n, uint32(r.Intn(1 << n)), uint32(r.Intn(1 << n))}
		if c.Check() == api.OK {
			return c
		}
	}
}

func TestP21_1Check(t *testing.T) {
	if trellis.Short() != (C{3, 7, 5}) || trellis.Long() != (C{7, 0171, 0133}) {
		t.Error("the named ones")
	}
	for _, c := range []C{{3, 7, 5}, {7, 127, 1}, {2, 1, 2}, {2, 3, 3}, {7, 1, 64}} {
		if n, e := c.States(); c.Check() != api.OK || n != 1<<(c.Length-1) || e != api.OK {
			t.Error("may be:", c, n, e)
		}
	}
	for _, c := range []C{{3, 3, 1}, {8, 255, 255}, {2, 2, 0}, {2, 0, 2}, {1, 1, 1}, {0, 0, 0}, {-1, 1, 1}, {3, 8, 7}, {3, 7, 8}, {math.MaxInt, 7, 5}, {3, math.MaxUint32, 5}} {
		_, e1 := c.States()
		_, _, _, e2 := c.Step(0, true)
		_, e3 := c.From(0)
		_, e4 := c.Encode(nil)
		_, e5 := c.Walk(nil)
		_, e6 := c.Exact(nil)
		_, e7 := c.Free()
		_, e8 := c.Slips()
		for i, e := range []api.Errno{c.Check(), e1, e2, e3, e4, e5, e6, e7, e8} {
			if e != api.ErrArg {
				t.Error("may not be:", c, i, e)
			}
		}
	}
}

func TestP21_1Steps(t *testing.T) {
	c := trellis.Short()
	if next, one, two, e := c.Step(2, true); next != 3 || one || !two || e != api.OK {
		t.Error("Step:", next, one, two, e)
	}
	for state, want := range [][2]int{{0, 1}, {2, 3}, {0, 1}, {2, 3}} {
		if l, e := c.From(state); l != want || e != api.OK {
			t.Error("From:", state, l, e)
		}
	}
	for _, state := range []int{-1, 4, math.MinInt, math.MaxInt} {
		if next, one, two, e := c.Step(state, true); next != 0 || one || two || e != api.ErrArg {
			t.Error("Step:", state, e)
		}
		if l, e := c.From(state); l != [2]int{} || e != api.ErrArg {
			t.Error("From:", state, e)
		}
	}
}

func TestP21_2Coded(t *testing.T) {
	c := trellis.Short()
	for _, m := range [][2]string{{"1", "111011"}, {"", "0000"}, {"101", "1110001011"}} {
		if l, e := c.Encode(row(m[0])); e != api.OK || bits.Text(l) != m[1] {
			t.Error("Encode:", m, bits.Text(l), e)
		}
		if l, e := c.Exact(row(m[1])); e != api.OK || bits.Text(l) != m[0] {
			t.Error("Exact:", m, bits.Text(l), e)
		}
	}
	if l, e := c.Walk(row("101")); e != api.OK || !slices.Equal(l, []int{0, 2, 1, 2, 1, 0}) {
		t.Error("Walk:", l, e)
	}
	for _, s := range []string{"111010", "11", "", "1", "0000000", "1110110", "010000"} {
		if l, e := c.Exact(row(s)); l != nil || e != api.ErrNone {
			t.Error("Exact:", s, l, e)
		}
	}
	most := api.MaxBits/2 - 2
	if l, e := c.Encode(make([]bool, most)); len(l) != api.MaxBits || e != api.OK {
		t.Error("the longest Encode:", len(l), e)
	}
	if l, e := c.Walk(make([]bool, most)); len(l) != api.MaxBits/2+1 || e != api.OK {
		t.Error("the longest Walk:", len(l), e)
	}
	if l, e := c.Encode(make([]bool, most+1)); l != nil || e != api.ErrArg {
		t.Error("Encode of too many:", e)
	}
	if l, e := c.Walk(make([]bool, most+1)); l != nil || e != api.ErrArg {
		t.Error("Walk of too many:", e)
	}
	if l, e := c.Exact(make([]bool, api.MaxBits+1)); l != nil || e != api.ErrArg {
		t.Error("Exact of too many:", e)
	}
	if l, e := c.Exact(make([]bool, api.MaxBits)); len(l) != most || e != api.OK {
		t.Error("the longest Exact:", e)
	}
}

// free is the least weight of short messages, each tried.
func free(c C) int {
	least := math.MaxInt
	for n := 1; n <= 10; n++ {
		for m := range 1 << n {
			l := make([]bool, n)
			for i := range l {
				l[i] = m>>i&1 != 0
			}
			coded, _ := c.Encode(l)
			if w := bits.Weight(coded); m > 0 && w < least {
				least = w
			}
		}
	}
	return least
}

func TestP21_3And6Free(t *testing.T) {
	for _, c := range []struct {
		c     C
		free  int
		slips bool
	}{{trellis.Short(), 5, false}, {trellis.Long(), 10, false}, {C{3, 6, 5}, 4, true}, {C{2, 1, 2}, 2, false}, {C{2, 3, 3}, 4, true}, {C{3, 4, 2}, 2, false}, {C{4, 15, 15}, 4, true}} {
		n, e := c.c.Free()
		slips, f := c.c.Slips()
		if n != c.free || slips != c.slips || e != api.OK || f != api.OK {
			t.Error("Free, Slips:", c, n, slips, e, f)
		}
	}
	r := rand.New(rand.NewSource(1))
	for range 12 {
		c := code(r)
		n, _ := c.Free()
		if least := free(c); n > least || n < 1 || c.Length < 5 && n != least {
			t.Error("Free:", c, n, least)
		}
	}
}

func TestP21_4Linear(t *testing.T) {
	r := rand.New(rand.NewSource(2))
	for range 300 {
		c, n := code(r), r.Intn(20)
		a, b := some(r, n), some(r, n)
		unlike, _ := bits.Xor(a, b)
		one, _ := c.Encode(a)
		two, _ := c.Encode(b)
		both, _ := c.Encode(unlike)
		sum, _ := bits.Xor(one, two)
		ahead, _ := c.Encode(append(make([]bool, 3), a...))
		if !slices.Equal(sum, both) || len(one) != 2*(n+c.Length-1) || !slices.Equal(ahead, append(make([]bool, 6), one...)) {
			t.Fatal("linear:", c, a, b)
		}
	}
}

func TestP21_5OneWay(t *testing.T) {
	r := rand.New(rand.NewSource(3))
	for range 300 {
		c, n := code(r), r.Intn(20)
		a, b := some(r, n), some(r, n)
		coded, _ := c.Encode(a)
		other, _ := c.Encode(b)
		free, _ := c.Free()
		if back, e := c.Exact(coded); e != api.OK || !slices.Equal(back, a) {
			t.Fatal("Exact of Encode:", c, a)
		}
		if d, _ := bits.Distance(coded, other); !slices.Equal(a, b) && d < free {
			t.Fatal("too near:", c, a, b)
		}
		walk, _ := c.Walk(a)
		for i, state := range walk[:len(walk)-1] {
			next, one, two, _ := c.Step(state, i < n && a[i])
			from, _ := c.From(next)
			if next != walk[i+1] || one != coded[2*i] || two != coded[2*i+1] || !slices.Contains(from[:], state) || from[0] >= from[1] {
				t.Fatal("a step:", c, i)
			}
		}
		at := r.Intn(len(coded))
		coded[at] = !coded[at]
		if l, e := c.Exact(coded); free > 1 && (l != nil || e != api.ErrNone) {
			t.Fatal("one bit turned:", c, a, at)
		}
	}
}
