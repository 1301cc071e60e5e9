package points_test

import (
	"math"
	"math/rand"
	"slices"
	"testing"

	"foghorn/api"
	"foghorn/plane"
	"foghorn/points"
)

var wrong = []int{math.MinInt, -4, 0, 1, 2, 5, 8, 255, 257, 512, math.MaxInt}

func TestP4_1Sets(t *testing.T) {
	l := points.Sizes()
	if !slices.Equal(l, []int{4, 16, 32, 64, 128, 256}) {
		t.Error("Sizes:", l)
	}
	l[0] = 9
	if points.Sizes()[0] != 4 {
		t.Error("Sizes are shared")
	}
	for i, size := range points.Sizes() {
		w, e := points.Bits(size)
		edge, f := points.Edge(size)
		if w != []int{2, 4, 5, 6, 7, 8}[i] || edge != []int{1, 3, 5, 7, 11, 15}[i] || e != api.OK || f != api.OK {
			t.Error("of", size, w, edge, e, f)
		}
		all, e := points.All(size)
		if len(all) != size || e != api.OK {
			t.Error("All:", size, len(all), e)
		}
		seen := map[complex128]bool{}
		for _, z := range all {
			re, im := math.Abs(real(z)), math.Abs(imag(z))
			if seen[z] || math.Mod(re, 2) != 1 || math.Mod(im, 2) != 1 || max(re, im) > float64(edge) {
				t.Error("a point:", size, z)
			}
			if size == 32 && min(re, im) == 5 || size == 128 && min(re, im) > 7 {
				t.Error("a corner:", size, z)
			}
			seen[z] = true
		}
	}
	for _, size := range wrong {
		if n, e := points.Bits(size); n != 0 || e != api.ErrArg {
			t.Error("Bits:", size, n, e)
		}
		if n, e := points.Edge(size); n != 0 || e != api.ErrArg {
			t.Error("Edge:", size, n, e)
		}
		if l, e := points.All(size); l != nil || e != api.ErrArg {
			t.Error("All:", size, e)
		}
		if n, e := points.Energy(size); n != 0 || e != api.ErrArg {
			t.Error("Energy:", size, e)
		}
	}
}

func TestP4_2Labels(t *testing.T) {
	for _, c := range []struct {
		size, label int
		z           complex128
	}{{4, 0, -1 - 1i}, {4, 1, -1 + 1i}, {4, 2, 1 - 1i}, {4, 3, 1 + 1i}, {16, 2, -3 + 3i}, {16, 12, 1 - 3i}, {32, 0, -5 - 3i}, {32, 3, -5 + 3i}, {32, 4, -3 - 5i}, {32, 31, 5 + 3i}, {128, 0, -11 - 7i}, {128, 15, -9 + 7i}, {128, 16, -7 - 11i}, {128, 127, 11 + 7i}, {256, 0, -15 - 15i}} {
		if z, e := points.At(c.size, c.label); z != c.z || e != api.OK {
			t.Error("At:", c, z, e)
		}
		if l, e := points.Label(c.size, c.z); l != c.label || e != api.OK {
			t.Error("Label:", c, l, e)
		}
	}
	nan, inf := math.NaN(), math.Inf(1)
	for _, c := range []struct {
		size int
		z    complex128
	}{{32, 5 + 5i}, {32, -5 - 5i}, {128, 9 - 9i}, {128, 11 + 9i}, {4, 0}, {4, 3 + 1i}, {4, complex(nan, 1)}, {4, complex(1, inf)}, {16, 1 + 0.5i}, {16, 2 + 1i}, {256, 17 + 1i}, {64, 1e300}} {
		if l, e := points.Label(c.size, c.z); l != 0 || e != api.ErrNone {
			t.Error("Label:", c, l, e)
		}
	}
	for _, size := range points.Sizes() {
		for _, label := range []int{-1, size, math.MaxInt} {
			if z, e := points.At(size, label); z != 0 || e != api.ErrArg {
				t.Error("At:", size, label, z, e)
			}
			if n, e := points.Turned(size, label, 1); n != 0 || e != api.ErrArg {
				t.Error("Turned:", size, label, n, e)
			}
		}
	}
	if n, e := points.Label(5, 1); n != 0 || e != api.ErrArg {
		t.Error("Label:", n, e)
	}
	if n, e := points.Turned(4, 0, 1); n != 2 || e != api.OK {
		t.Error("Turned:", n, e)
	}
	if n, e := points.Turned(4, 0, -1); n != 1 || e != api.OK {
		t.Error("Turned to the right:", n, e)
	}
	if n, e := points.Turned(4, 0, math.MinInt); n != 0 || e != api.OK {
		t.Error("Turned by the least int:", n, e)
	}
}

func TestP4_3And8Cosets(t *testing.T) {
	for _, c := range []struct {
		z    complex128
		l    int
		want int
	}{{1 + 1i, 4, 2}, {-1 - 1i, 8, 0}, {3 - 3i, 0, 0}} {
		if n, e := points.Coset(16, c.z, c.l); n != c.want || e != api.OK {
			t.Error("Coset:", c, n, e)
		}
	}
	for _, level := range []int{-1, 9} {
		if n, e := points.Coset(16, 0, level); n != 0 || e != api.ErrArg {
			t.Error("Coset:", level, n, e)
		}
	}
	if n, e := points.Coset(16, 0, 8); n != 0 || e != api.ErrNone {
		t.Error("Coset of no point:", n, e)
	}
	if _, e := points.Coset(17, 1, 1); e != api.ErrArg {
		t.Error("Coset of no size:", e)
	}
	for _, size := range points.Sizes() {
		all, _ := points.All(size)
		for i, a := range all {
			for _, b := range all[:i] {
				least := 4.0
				for level := range points.MaxLevel + 1 {
					ca, _ := points.Coset(size, a, level)
					cb, _ := points.Coset(size, b, level)
					if apart := plane.Apart(a, b); ca == cb && apart < least || apart < 4 {
						t.Fatal("too near:", size, a, b, level)
					}
					if ca != cb {
						break
					}
					least *= 2
				}
				if size > 64 && i%7 != 0 {
					break
				}
			}
			high, _ := points.Coset(size, a, 8)
			for level := range 8 {
				if low, _ := points.Coset(size, a, level); low != high&(1<<level-1) {
					t.Fatal("a lesser level:", size, a, level)
				}
			}
		}
	}
}

func TestP4_4And5Rows(t *testing.T) {
	l, e := points.Row([]bool{false, false, true, true}, 4)
	if e != api.OK || !slices.Equal(l, []complex128{-1 - 1i, 1 + 1i}) {
		t.Error("Row:", l, e)
	}
	if b, e := points.Back([]complex128{1 + 1i, -1 + 1i}, 4); e != api.OK || !slices.Equal(b, []bool{true, true, false, true}) {
		t.Error("Back:", b, e)
	}
	r := rand.New(rand.NewSource(1))
	for _, size := range points.Sizes() {
		w, _ := points.Bits(size)
		row := make([]bool, w*50)
		for i := range row {
			row[i] = r.Intn(2) == 1
		}
		l, e := points.Row(row, size)
		if back, f := points.Back(l, size); e != api.OK || f != api.OK || !slices.Equal(back, row) {
			t.Error("Back of Row:", size, e, f)
		}
		for label := range size {
			z, _ := points.At(size, label)
			if back, e := points.Label(size, z); back != label || e != api.OK {
				t.Error("Label of At:", size, label, back, e)
			}
		}
		if _, e := points.Row(row[:w-1], size); e != api.ErrArg {
			t.Error("no whole point:", size, e)
		}
		if _, e := points.Row(make([]bool, api.MaxBits+w), size); e != api.ErrArg {
			t.Error("no row:", size, e)
		}
		many := slices.Repeat([]complex128{1 + 1i}, api.MaxBits/w+1)
		if l, e := points.Back(many, size); l != nil || e != api.ErrArg {
			t.Error("too many:", size, e)
		}
		if l, e := points.Back(many[1:], size); len(l) != api.MaxBits/w*w || e != api.OK {
			t.Error("as many as may be:", size, e)
		}
		if l, e := points.Back([]complex128{1 + 1i, 2}, size); l != nil || e != api.ErrNone {
			t.Error("no point:", size, e)
		}
	}
	if _, e := points.Row(nil, 3); e != api.ErrArg {
		t.Error("Row:", e)
	}
	if _, e := points.Back(nil, 3); e != api.ErrArg {
		t.Error("Back:", e)
	}
}

func TestP4_6Neighbours(t *testing.T) {
	for _, size := range []int{4, 16, 64, 256} {
		all, _ := points.All(size)
		for a, z := range all {
			for b, y := range all {
				if d := z - y; d == 2 || d == 2i {
					if n := a ^ b; n&(n-1) != 0 {
						t.Error("neighbours:", size, z, y)
					}
				}
			}
		}
	}
}

func TestP4_7Turns(t *testing.T) {
	for _, size := range points.Sizes() {
		for label := range size {
			one, e := points.Turned(size, label, 1)
			z, _ := points.At(size, label)
			if y, _ := points.At(size, one); e != api.OK || y != z*1i {
				t.Fatal("Turned:", size, label, one, e)
			}
			if four, _ := points.Turned(size, label, 4); four != label {
				t.Fatal("four quarters:", size, label)
			}
			two, _ := points.Turned(size, one, -7)
			if sum, _ := points.Turned(size, label, -6); sum != two {
				t.Fatal("together:", size, label)
			}
		}
	}
}

func TestP4_9Energies(t *testing.T) {
	for i, size := range points.Sizes() {
		if n, e := points.Energy(size); n != []int{8, 160, 640, 2688, 10496, 43520}[i] || e != api.OK {
			t.Error("Energy:", size, n, e)
		}
	}
}
