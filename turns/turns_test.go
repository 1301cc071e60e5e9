package turns_test

import (
	"math"
	"math/rand"
	"slices"
	"testing"

	"foghorn/api"
	"foghorn/turns"
)

var (
	nan = math.NaN()
	inf = math.Inf(1)
)

func some(r *rand.Rand, n int) []uint8 {
	q := make([]uint8, n)
	for i := range q {
		q[i] = uint8(r.Intn(4))
	}
	return q
}

func TestP6_1Turning(t *testing.T) {
	if p, e := turns.Into([]uint8{1, 1, 3, 2}); e != api.OK || !slices.Equal(p, []uint8{1, 2, 1, 3}) {
		t.Error("Into:", p, e)
	}
	if q, e := turns.Out([]uint8{1, 2, 1, 3}); e != api.OK || !slices.Equal(q, []uint8{1, 1, 3, 2}) {
		t.Error("Out:", q, e)
	}
	q, marks, e := turns.Marked([]uint8{1, 2, 1, 3}, []bool{true, false, true, true})
	if e != api.OK || !slices.Equal(q, []uint8{1, 0, 0, 2}) || !slices.Equal(marks, []bool{true, false, false, true}) {
		t.Error("Marked:", q, marks, e)
	}
	if q, marks, _ := turns.Marked([]uint8{1, 2}, []bool{false, true}); !slices.Equal(q, []uint8{0, 0}) || marks[0] || marks[1] {
		t.Error("Marked without the first:", q, marks)
	}
	for _, l := range []int{0, 1, 3} {
		if q, marks, e := turns.Marked([]uint8{1, 2}, make([]bool, l)); q != nil || marks != nil || e != api.ErrArg {
			t.Error("Marked:", l, q, marks, e)
		}
	}
	for _, p := range [][]uint8{{0, 4}, {255}, make([]uint8, api.MaxSamples+1)} {
		if l, e := turns.Into(p); l != nil || e != api.ErrArg {
			t.Error("Into:", e)
		}
		if l, e := turns.Out(p); l != nil || e != api.ErrArg {
			t.Error("Out:", e)
		}
		if _, _, e := turns.Marked(p, make([]bool, len(p))); e != api.ErrArg {
			t.Error("Marked:", e)
		}
		if l, e := turns.Bits(p); l != nil || e != api.ErrArg {
			t.Error("Bits:", e)
		}
		if l, e := turns.Points(p, 1); l != nil || e != api.ErrArg {
			t.Error("Points:", e)
		}
		if n, e := turns.Counts(p); n != [4]int{} || e != api.ErrArg {
			t.Error("Counts:", n, e)
		}
	}
	if l, e := turns.Into(make([]uint8, api.MaxSamples)); len(l) != api.MaxSamples || e != api.OK {
		t.Error("the longest:", e)
	}
}

func TestP6_2Bits(t *testing.T) {
	want := []bool{false, false, false, true, true, true, true, false}
	if l, e := turns.Bits([]uint8{0, 1, 2, 3}); e != api.OK || !slices.Equal(l, want) {
		t.Error("Bits:", l, e)
	}
	if q, e := turns.Of(want); e != api.OK || !slices.Equal(q, []uint8{0, 1, 2, 3}) {
		t.Error("Of:", q, e)
	}
	for _, n := range []int{1, 3, api.MaxBits + 2} {
		if q, e := turns.Of(make([]bool, n)); q != nil || e != api.ErrArg {
			t.Error("Of:", n, e)
		}
	}
	if l, e := turns.Bits(make([]uint8, api.MaxBits/2+1)); l != nil || e != api.ErrArg {
		t.Error("Bits of too many:", e)
	}
	if l, e := turns.Bits(make([]uint8, api.MaxBits/2)); len(l) != api.MaxBits || e != api.OK {
		t.Error("Bits of the most:", e)
	}
	if n, e := turns.Counts([]uint8{1, 1, 3}); n != [4]int{0, 2, 0, 1} || e != api.OK {
		t.Error("Counts:", n, e)
	}
}

func TestP6_3Points(t *testing.T) {
	if l, e := turns.Points([]uint8{0, 1, 2, 3}, 2); e != api.OK || !slices.Equal(l, []complex128{2, 2i, -2, -2i}) {
		t.Error("Points:", l, e)
	}
	for _, size := range []float64{1.0 / 4096, 1024} {
		if l, e := turns.Points([]uint8{2}, size); e != api.OK || l[0] != complex(-size, 0) {
			t.Error("Points:", size, l, e)
		}
	}
	for _, size := range []float64{0, -1, nan, inf, 1025, 1.0 / 8192} {
		if l, e := turns.Points(nil, size); l != nil || e != api.ErrArg {
			t.Error("Points:", size, l, e)
		}
	}
	for _, c := range []struct {
		z  complex128
		n  uint8
		ok bool
	}{{3 + 1i, 0, true}, {-1 - 1i, 2, true}, {1 + 1i, 0, true}, {-1 + 1i, 1, true}, {1 - 1i, 0, true}, {-2i, 3, true}, {0, 0, false}, {complex(nan, 9), 0, false}, {complex(9, nan), 0, false}, {complex(-inf, inf), 1, true}, {complex(0, -inf), 3, true}} {
		if n, ok := turns.Near(c.z); n != c.n || ok != c.ok {
			t.Error("Near:", c, n, ok)
		}
	}
	q, marks, e := turns.Row([]api.Sample{{V: 2i}, {V: 3, Lost: true}, {}, {V: -1}})
	if e != api.OK || !slices.Equal(q, []uint8{1, 0, 0, 2}) || !slices.Equal(marks, []bool{true, false, false, true}) {
		t.Error("Row:", q, marks, e)
	}
	if q, marks, e := turns.Row(make([]api.Sample, api.MaxSamples+1)); q != nil || marks != nil || e != api.ErrArg {
		t.Error("Row too long:", e)
	}
	if l, e := turns.Whole([]complex128{1, 2i}, -1); e != api.OK || !slices.Equal(l, []complex128{-1i, 2}) {
		t.Error("Whole:", l, e)
	}
	if l, e := turns.Whole(make([]complex128, api.MaxSamples+1), 0); l != nil || e != api.ErrArg {
		t.Error("Whole too long:", e)
	}
}

func TestP6_3Found(t *testing.T) {
	for _, c := range []struct {
		a, b []complex128
		n    int
		e    api.Errno
	}{{[]complex128{1, 2i}, []complex128{1i, -2}, 1, api.OK}, {[]complex128{1}, []complex128{2}, 0, api.ErrNone}, {[]complex128{0}, []complex128{0}, 0, api.OK}, {nil, nil, 0, api.OK}, {[]complex128{1}, nil, 0, api.ErrArg}, {nil, []complex128{1}, 0, api.ErrArg}, {[]complex128{complex(nan, 0)}, []complex128{complex(nan, 0)}, 0, api.ErrNone}, {[]complex128{1 + 2i}, []complex128{2 - 1i}, 3, api.OK}} {
		if n, e := turns.Found(c.a, c.b); n != c.n || e != c.e {
			t.Error("Found:", c, n, e)
		}
	}
	long := make([]complex128, api.MaxSamples+1)
	if _, e := turns.Found(long, long); e != api.ErrArg {
		t.Error("Found of too long ones:", e)
	}
}

func TestP6_4Whole(t *testing.T) {
	r := rand.New(rand.NewSource(1))
	for range 200 {
		q := some(r, 1+r.Intn(20))
		p, _ := turns.Into(q)
		if back, _ := turns.Out(p); !slices.Equal(back, q) {
			t.Fatal("Out of Into:", q)
		}
		out, _ := turns.Out(q)
		if back, _ := turns.Into(out); !slices.Equal(back, q) {
			t.Fatal("Into of Out:", q)
		}
		n := uint8(r.Intn(4))
		for i := range p {
			p[i] = (p[i] + n) & 3
		}
		turned, _ := turns.Out(p)
		if turned[0] != (q[0]+n)&3 || !slices.Equal(turned[1:], q[1:]) {
			t.Fatal("turned as a whole:", q, n, turned)
		}
		l, _ := turns.Bits(q)
		if back, _ := turns.Of(l); !slices.Equal(back, q) {
			t.Fatal("Of of Bits:", q)
		}
	}
	for n := range uint8(4) {
		l, _ := turns.Bits([]uint8{n, (n + 1) & 3})
		if (l[0] != l[2]) == (l[1] != l[3]) {
			t.Error("neighbours:", n, l)
		}
	}
}

func TestP6_5Disturbed(t *testing.T) {
	r := rand.New(rand.NewSource(2))
	for range 200 {
		p := some(r, 1+r.Intn(20))
		size := float64(1+r.Intn(4096)) / 4
		n := r.Intn(9) - 4
		sent, _ := turns.Points(p, size)
		whole, _ := turns.Whole(sent, n)
		if found, e := turns.Found(sent, whole); found != n&3 || e != api.OK {
			t.Fatal("Found:", n, found, e)
		}
		row := make([]api.Sample, len(p))
		for i, z := range whole {
			row[i].V = z + complex(size*(r.Float64()-0.5), size*(r.Float64()-0.5))
		}
		got, marks, _ := turns.Row(row)
		for i := range p {
			if !marks[i] || got[i] != (p[i]+uint8(n&3))&3 {
				t.Fatal("disturbed:", p, n, got)
			}
		}
	}
}
