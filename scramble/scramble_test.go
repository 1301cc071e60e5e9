package scramble_test

import (
	"math"
	"math/rand"
	"slices"
	"testing"

	"foghorn/api"
	"foghorn/bits"
	"foghorn/scramble"
)

func made(t *testing.T, width int, taps, state uint32) *scramble.Register {
	x, e := scramble.New(width, taps, state)
	if e != api.OK {
		t.Fatal("New:", width, taps, state, e)
	}
	return x
}

// some is a register at random.
func some(t *testing.T, r *rand.Rand) *scramble.Register {
	width := 2 + r.Intn(31)
	all := int64(1)<<width - 1
	return made(t, width, uint32(r.Int63n(all+1))|1, uint32(1+r.Int63n(all)))
}

func TestP16_1Steps(t *testing.T) {
	for _, c := range []struct {
		width       int
		taps, state uint32
	}{{1, 1, 1}, {33, 1, 1}, {0, 1, 1}, {-1, 1, 1}, {4, 2, 1}, {4, 17, 1}, {4, 3, 0}, {4, 3, 16}, {32, math.MaxUint32 - 1, 1}, {2, 5, 1}} {
		if x, e := scramble.New(c.width, c.taps, c.state); x != nil || e != api.ErrArg {
			t.Error("New:", c, e)
		}
	}
	made(t, 32, math.MaxUint32, math.MaxUint32)
	made(t, 2, 3, 3)
	x := made(t, 4, 3, 1)
	if b, e := x.Next(); !b || e != api.OK || x.State() != 8 {
		t.Error("Next:", b, e, x.State())
	}
	y := x.Copy()
	if b, e := x.Back(); !b || e != api.OK || x.State() != 1 || y.State() != 8 {
		t.Error("Back:", b, e, x.State(), y.State())
	}
	for number, state := range map[int]uint32{0: 1, 5: 6, 32766: 32767, 32767: 1, 32768: 2, math.MaxInt: 1 + math.MaxInt%32767} {
		x, e := scramble.For(number)
		if e != api.OK || x.State() != state {
			t.Error("For:", number, e, x.State())
		}
	}
	for _, number := range []int{-1, math.MinInt} {
		if x, e := scramble.For(number); x != nil || e != api.ErrArg {
			t.Error("For:", number, e)
		}
	}
	var none *scramble.Register
	_, e1 := none.Next()
	_, e2 := none.Back()
	_, e3 := none.Row(-1)
	_, e4 := none.Apply(nil)
	_, e5 := none.Period(0)
	e6 := none.Jump(1)
	for _, e := range []api.Errno{e1, e2, e3, e4, e5, e6} {
		if e != api.ErrNil {
			t.Error("a nil register:", e)
		}
	}
	if none.State() != 0 || none.Copy() != nil {
		t.Error("a nil register")
	}
	var zero scramble.Register
	zero.Next()
	zero.Back()
	zero.Row(3)
	zero.Jump(-3)
	zero.Period(3)
}

func TestP16_2Rows(t *testing.T) {
	x := made(t, 4, 3, 1)
	l, e := x.Row(15)
	if e != api.OK || bits.Text(l) != "100010011010111" || x.State() != 1 {
		t.Error("Row:", bits.Text(l), e, x.State())
	}
	if l, e := x.Apply([]bool{true, true, true}); e != api.OK || bits.Text(l) != "011" || x.State() == 1 {
		t.Error("Apply:", l, e)
	}
	before := x.State()
	for _, n := range []int{-1, api.MaxBits + 1, math.MaxInt, math.MinInt} {
		if l, e := x.Row(n); l != nil || e != api.ErrArg {
			t.Error("Row:", n, e)
		}
	}
	if l, e := x.Apply(make([]bool, api.MaxBits+1)); l != nil || e != api.ErrArg || x.State() != before {
		t.Error("Apply to no row:", e)
	}
	if l, e := x.Apply(make([]bool, api.MaxBits)); len(l) != api.MaxBits || e != api.OK {
		t.Error("Apply to the longest row:", e)
	}
	x = made(t, 4, 3, 1)
	for _, n := range []int64{15, -30, 15 << 40, -15 << 40, 0} {
		if e := x.Jump(n); e != api.OK || x.State() != 1 {
			t.Error("Jump:", n, e, x.State())
		}
	}
	if x.Jump(math.MinInt64); x.State() == 0 {
		t.Error("Jump by the least int:", x.State())
	}
	if x.Jump(math.MaxInt64); x.Jump(1) != api.OK || x.State() != 1 {
		t.Error("Jump back from there:", x.State())
	}
}

func TestP16_3Period(t *testing.T) {
	x := made(t, 4, 3, 1)
	if n, e := x.Period(20); n != 15 || e != api.OK || x.State() != 1 {
		t.Error("Period:", n, e)
	}
	if n, e := x.Period(15); n != 15 || e != api.OK {
		t.Error("Period at most:", n, e)
	}
	if n, e := x.Period(14); n != 0 || e != api.ErrNone {
		t.Error("Period above most:", n, e)
	}
	for _, most := range []int{0, -1, scramble.MaxPeriod + 1, math.MaxInt} {
		if n, e := x.Period(most); n != 0 || e != api.ErrArg {
			t.Error("Period:", most, n, e)
		}
	}
	if n, e := made(t, 2, 1, 3).Period(1); n != 1 || e != api.OK {
		t.Error("the least Period:", n, e)
	}
	if n, e := made(t, 32, math.MaxUint32, 1).Period(scramble.MaxPeriod); e != api.OK && e != api.ErrNone {
		t.Error("Period:", n, e)
	}
}

func TestP16_4To6Rows(t *testing.T) {
	r := rand.New(rand.NewSource(1))
	for range 300 {
		x := some(t, r)
		y, z, back := x.Copy(), x.Copy(), x.Copy()
		row := make([]bool, r.Intn(60))
		for i := range row {
			row[i] = r.Intn(2) == 1
		}
		there, _ := x.Apply(row)
		if here, _ := y.Apply(there); !slices.Equal(here, row) || x.State() != y.State() {
			t.Fatal("applied again")
		}
		n, m := r.Intn(40), r.Intn(40)
		all, _ := z.Row(n + m)
		one, _ := back.Row(n)
		two, _ := back.Row(m)
		if !slices.Equal(all, append(one, two...)) {
			t.Fatal("a row and a row")
		}
		for i := range slices.Backward(all) {
			if b, e := back.Back(); b != all[i] || e != api.OK {
				t.Fatal("step by step back:", i)
			}
		}
		far := back.Copy()
		far.Jump(int64(n))
		for range n {
			back.Next()
		}
		a, b := r.Int63n(1<<40)-1<<39, r.Int63n(1<<40)-1<<39
		if far.State() != back.State() {
			t.Fatal("Jump leads elsewhere:", n)
		}
		far.Jump(a)
		far.Jump(b)
		back.Jump(a + b)
		if far.State() != back.State() || far.State() == 0 {
			t.Fatal("Jump and Jump:", a, b)
		}
		far.Jump(-a)
		far.Jump(-b)
		back.Jump(-a - b)
		if far.State() != back.State() {
			t.Fatal("Jump back:", a, b)
		}
		state := far.State()
		bitsOf, _ := far.Row(32)
		for i, b := range bitsOf[:2] {
			if b != (state>>i&1 != 0) {
				t.Fatal("the row is the state")
			}
		}
	}
	x := made(t, 9, 273, 300)
	l, _ := x.Copy().Row(9)
	for i, b := range l {
		if b != (x.State()>>i&1 != 0) {
			t.Error("the row is the state:", i)
		}
	}
}

func TestP16_7Linear(t *testing.T) {
	r := rand.New(rand.NewSource(2))
	for range 200 {
		taps := uint32(r.Intn(1<<20)) | 1
		a, b := uint32(1+r.Intn(1<<20-1)), uint32(1+r.Intn(1<<20-1))
		if a == b {
			continue
		}
		one, _ := made(t, 20, taps, a).Row(100)
		two, _ := made(t, 20, taps, b).Row(100)
		both, _ := made(t, 20, taps, a^b).Row(100)
		if l, _ := bits.Xor(one, two); !slices.Equal(l, both) {
			t.Fatal("linear:", taps, a, b)
		}
	}
}

func TestP16_8Numbers(t *testing.T) {
	x, _ := scramble.For(77)
	if n, e := x.Period(scramble.MaxPeriod); n != 32767 || e != api.OK {
		t.Error("Period:", n, e)
	}
	if l, _ := x.Row(32767); bits.Weight(l) != 16384 {
		t.Error("set in a period:", bits.Weight(l))
	}
}
