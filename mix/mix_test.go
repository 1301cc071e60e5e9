package mix_test

import (
	"math"
	"math/rand"
	"slices"
	"testing"

	"foghorn/api"
	"foghorn/mix"
	"foghorn/plane"
)

var nan, inf = math.NaN(), math.Inf(1)

func alike(a, b []complex128) bool {
	same := func(x, y float64) bool {
		return math.Float64bits(x) == math.Float64bits(y) || x != x && y != y
	}
	return slices.EqualFunc(a, b, func(x, y complex128) bool {
		return same(real(x), real(y)) && same(imag(x), imag(y))
	})
}

func wild(r *rand.Rand, n int) []complex128 {
	parts := []float64{0, math.Copysign(0, -1), 1, -2.5, nan, inf, -inf, math.MaxFloat64, math.SmallestNonzeroFloat64}
	l := make([]complex128, n)
	for i := range l {
		l[i] = complex(parts[r.Intn(len(parts))], parts[r.Intn(len(parts))])
	}
	return l
}

func tame(r *rand.Rand, n int) []complex128 {
	l := make([]complex128, n)
	for i := range l {
		l[i] = complex(float64(r.Intn(2048)-1024)/64, float64(r.Intn(2048)-1024)/64)
	}
	return l
}

func TestP8_1Moved(t *testing.T) {
	for _, c := range []struct {
		l    []complex128
		k    int
		want []complex128
	}{{[]complex128{1, 1, 1, 1}, 1, []complex128{1, 1i, -1, -1i}}, {[]complex128{1, 1}, 2, []complex128{1, -1}}, {[]complex128{1 + 2i, 1 + 2i}, -1, []complex128{1 + 2i, 2 - 1i}}, {nil, 1, nil}, {[]complex128{1, 1}, math.MaxInt, []complex128{1, -1i}}} {
		if l, e := mix.Up(c.l, c.k); e != api.OK || !slices.Equal(l, c.want) {
			t.Error("Up:", c, l, e)
		}
		if l, e := mix.Down(c.l, -c.k); e != api.OK || !slices.Equal(l, c.want) {
			t.Error("Down:", c, l, e)
		}
	}
	if l, e := mix.Down([]complex128{1, 1}, math.MinInt); e != api.OK || !slices.Equal(l, []complex128{1, 1}) {
		t.Error("Down by the least int:", l, e)
	}
	if l, e := mix.Carrier(3, 3); e != api.OK || !slices.Equal(l, []complex128{1, -1i, -1}) {
		t.Error("Carrier:", l, e)
	}
	for _, n := range []int{-1, api.MaxSamples + 1, math.MinInt} {
		if l, e := mix.Carrier(1, n); l != nil || e != api.ErrArg {
			t.Error("Carrier:", n, e)
		}
	}
	if l, e := mix.Mirror([]complex128{1 + 2i, -3i}); e != api.OK || !slices.Equal(l, []complex128{1 - 2i, 3i}) {
		t.Error("Mirror:", l, e)
	}
	long := make([]complex128, api.MaxSamples+1)
	for _, f := range []func([]complex128) ([]complex128, api.Errno){mix.Mirror, func(l []complex128) ([]complex128, api.Errno) { return mix.Up(l, 1) }, func(l []complex128) ([]complex128, api.Errno) { return mix.Down(l, 1) }} {
		if l, e := f(long); l != nil || e != api.ErrArg {
			t.Error("too long:", e)
		}
		if l, e := f(long[1:]); len(l) != api.MaxSamples || e != api.OK {
			t.Error("as long as may be:", e)
		}
	}
}

func TestP8_2Lines(t *testing.T) {
	r, e := mix.Line([]complex128{1 + 2i, 3 + 4i})
	if e != api.OK || !slices.Equal(r, []float64{1, 2, -4, 3}) {
		t.Error("Line:", r, e)
	}
	if l, e := mix.Unline(r); e != api.OK || !slices.Equal(l, []complex128{1 + 2i, 3 + 4i}) {
		t.Error("Unline:", l, e)
	}
	if r, e := mix.Line(nil); len(r) != 0 || e != api.OK {
		t.Error("Line of none:", r, e)
	}
	for _, n := range []int{1, 3, api.MaxSamples + 2} {
		if l, e := mix.Unline(make([]float64, n)); l != nil || e != api.ErrArg {
			t.Error("Unline:", n, e)
		}
	}
	if r, e := mix.Line(make([]complex128, api.MaxSamples/2+1)); r != nil || e != api.ErrArg {
		t.Error("Line too long:", e)
	}
}

func TestP8_2Shares(t *testing.T) {
	row := []complex128{1, 2, 3, 4, 5}
	if l, e := mix.Share(row, 1, 2); e != api.OK || !slices.Equal(l, []complex128{2, 4}) {
		t.Error("Share:", l, e)
	}
	if l, e := mix.Share(row[:1], 1, 2); len(l) != 0 || e != api.OK {
		t.Error("Share of none:", l, e)
	}
	for _, c := range [][2]int{{2, 2}, {-1, 2}, {0, 0}, {0, -1}, {0, api.MaxSamples + 1}, {math.MaxInt, math.MaxInt}} {
		if l, e := mix.Share(row, c[0], c[1]); l != nil || e != api.ErrArg {
			t.Error("Share:", c, l, e)
		}
	}
	if _, e := mix.Share(make([]complex128, api.MaxSamples+1), 0, 1); e != api.ErrArg {
		t.Error("Share of a row too long:", e)
	}
	if l, e := mix.Merge([][]complex128{{1, 2}, {3, 4}}); e != api.OK || !slices.Equal(l, []complex128{1, 3, 2, 4}) {
		t.Error("Merge:", l, e)
	}
	if l, e := mix.Merge(nil); len(l) != 0 || e != api.OK {
		t.Error("Merge of none:", l, e)
	}
	if l, e := mix.Merge(make([][]complex128, api.MaxSamples)); len(l) != 0 || e != api.OK {
		t.Error("Merge of empty ones:", l, e)
	}
	half := make([]complex128, api.MaxSamples/2+1)
	for _, rows := range [][][]complex128{{{1}, nil}, {nil, {1}}, {half, half}, make([][]complex128, api.MaxSamples+1)} {
		if l, e := mix.Merge(rows); l != nil || e != api.ErrArg {
			t.Error("Merge:", len(rows), e)
		}
	}
}

func TestP8_3Back(t *testing.T) {
	r := rand.New(rand.NewSource(1))
	for range 200 {
		step := 1 + r.Intn(5)
		l, k := wild(r, step*r.Intn(9)), r.Intn(20)-10
		up, _ := mix.Up(l, k)
		if back, _ := mix.Down(up, k); !alike(back, l) {
			t.Fatal("Down of Up:", l, k)
		}
		down, _ := mix.Down(l, k)
		if back, _ := mix.Up(down, k); !alike(back, l) {
			t.Fatal("Up of Down:", l, k)
		}
		line, _ := mix.Line(l)
		back, _ := mix.Unline(line)
		again, _ := mix.Line(back)
		if !alike(back, l) || len(again) != len(line) {
			t.Fatal("Unline of Line:", l)
		}
		for i, x := range again {
			if math.Float64bits(x) != math.Float64bits(line[i]) && x == x {
				t.Fatal("Line of Unline:", l)
			}
		}
		mirror, _ := mix.Mirror(l)
		if back, _ := mix.Mirror(mirror); !alike(back, l) {
			t.Fatal("Mirror of Mirror:", l)
		}
		var rows [][]complex128
		for from := range step {
			row, _ := mix.Share(l, from, step)
			rows = append(rows, row)
		}
		if back, _ := mix.Merge(rows); !alike(back, l) {
			t.Fatal("Merge of Shares:", l, step)
		}
	}
}

func TestP8_4Together(t *testing.T) {
	r := rand.New(rand.NewSource(2))
	for range 200 {
		a, b := tame(r, 9), tame(r, 9)
		j, k := r.Intn(20)-10, r.Intn(20)-10
		one, _ := mix.Up(a, j)
		two, _ := mix.Up(one, k)
		if both, _ := mix.Up(a, j+k); !slices.Equal(both, two) {
			t.Fatal("Up by j, then k:", j, k)
		}
		if four, _ := mix.Up(a, 4*j); !slices.Equal(four, a) {
			t.Fatal("Up by a multiple of four:", j)
		}
		carrier, _ := mix.Carrier(j, 9)
		other, _ := mix.Up(b, j)
		sum := make([]complex128, 9)
		for i := range sum {
			sum[i] = a[i] + b[i]
		}
		sums, _ := mix.Up(sum, j)
		mirror, _ := mix.Mirror(one)
		down, _ := mix.Mirror(a)
		down, _ = mix.Down(down, j)
		for i := range a {
			if one[i] != plane.Mul(a[i], carrier[i]) || sums[i] != one[i]+other[i] || mirror[i] != down[i] || plane.Norm(one[i]) != plane.Norm(a[i]) {
				t.Fatal("moved:", a, b, j, i)
			}
		}
	}
}
