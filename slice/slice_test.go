package slice_test

import (
	"math"
	"math/rand"
	"slices"
	"testing"

	"foghorn/api"
	"foghorn/plane"
	"foghorn/points"
	"foghorn/slice"
)

var (
	nan   = math.NaN()
	inf   = math.Inf(1)
	sizes = []int{4, 16, 32, 64, 128, 256}
)

const tiny = math.SmallestNonzeroFloat64

func TestP5_1Axis(t *testing.T) {
	for _, c := range []struct {
		x    float64
		edge int
		want int
	}{{0, 3, -1}, {2, 3, 1}, {2.5, 3, 3}, {99, 3, 3}, {-inf, 3, -3}, {inf, 15, 15}, {tiny, 1, 1}, {-tiny, 1, -1}, {-2, 3, -3}, {-1.5, 3, -1}, {14, 15, 13}, {1, 1, 1}, {math.Nextafter(2, 3), 3, 3}} {
		if n, e := slice.Axis(c.x, c.edge); n != c.want || e != api.OK {
			t.Error("Axis:", c, n, e)
		}
	}
	for _, edge := range []int{math.MinInt, -1, 0, 2, 16, 17, math.MaxInt} {
		if n, e := slice.Axis(0, edge); n != 0 || e != api.ErrArg {
			t.Error("Axis:", edge, n, e)
		}
	}
	if n, e := slice.Axis(nan, 3); n != 0 || e != api.ErrArg {
		t.Error("Axis of no number:", n, e)
	}
}

func TestP5_1CutAndGap(t *testing.T) {
	if z, e := slice.Cut(16, complex(inf, -2.5)); z != 3-2.5i || e != api.OK {
		t.Error("Cut:", z, e)
	}
	if z, e := slice.Cut(32, complex(-9, 5)); z != -5+5i || e != api.OK {
		t.Error("Cut:", z, e)
	}
	if z, e := slice.Cut(5, 0); z != 0 || e != api.ErrArg {
		t.Error("Cut of no size:", z, e)
	}
	if z, e := slice.Cut(4, complex(0, nan)); z != 0 || e != api.ErrArg {
		t.Error("Cut of no number:", z, e)
	}
	label, _ := points.Label(32, 3+5i)
	if g, e := slice.Gap(32, 9+9i, label); g != 4 || e != api.OK {
		t.Error("Gap:", g, e)
	}
	if g, e := slice.Gap(4, 0.5-9i, 3); g != 4.25 || e != api.OK {
		t.Error("Gap:", g, e)
	}
	for _, c := range []struct {
		size, label int
		z           complex128
	}{{5, 0, 0}, {4, 4, 0}, {4, -1, 0}, {4, 0, complex(nan, 0)}} {
		if g, e := slice.Gap(c.size, c.z, c.label); g != 0 || e != api.ErrArg {
			t.Error("Gap:", c, g, e)
		}
	}
}

func TestP5_2Decide(t *testing.T) {
	for _, c := range []struct {
		size int
		z    complex128
		want complex128
	}{{4, 0.5 - 9i, 1 - 1i}, {16, 2 + 2.25i, 1 + 3i}, {64, 100, 7 - 1i}, {32, 5 + 5i, 3 + 5i}, {32, -100 - 100i, -5 - 3i}, {128, 1e-20, -1 - 1i}, {128, 11 + 11i, 7 + 11i}, {32, 0, -1 - 1i}} {
		label, _ := points.Label(c.size, c.want)
		if d, e := slice.Decide(c.size, c.z); d != (slice.Decision{Label: label, V: c.want}) || e != api.OK {
			t.Error("Decide:", c, d, e)
		}
	}
	for _, size := range sizes {
		for _, z := range []complex128{complex(nan, 0), complex(0, nan), complex(inf, 0), complex(-inf, 0), complex(0, inf), complex(0, -inf), complex(inf, -inf)} {
			if d, e := slice.Decide(size, z); d != (slice.Decision{Lost: true}) || e != api.OK {
				t.Error("lost:", size, z, d, e)
			}
		}
		if d, e := slice.Decide(size, complex(math.MaxFloat64, math.MaxFloat64)); d.Lost || e != api.OK {
			t.Error("the greatest float:", size, d, e)
		}
	}
	if d, e := slice.Decide(5, 0); d != (slice.Decision{}) || e != api.ErrArg {
		t.Error("Decide:", d, e)
	}
}

func TestP5_2Rows(t *testing.T) {
	l, e := slice.Row(4, []api.Sample{{V: 1 + 1i}, {Lost: true}, {V: -3}, {Lost: true}})
	if e != api.OK || !slices.Equal(l, []slice.Decision{{3, 1 + 1i, false}, {Lost: true}, {0, -1 - 1i, false}, {Lost: true}}) {
		t.Error("Row:", l, e)
	}
	if at := slice.Lost(l); !slices.Equal(at, []int{1, 3}) {
		t.Error("Lost:", at)
	}
	if at := slice.Lost(nil); len(at) != 0 {
		t.Error("Lost of none:", at)
	}
	if l, e := slice.Row(5, []api.Sample{{V: 0.1}}); l != nil || e != api.ErrArg {
		t.Error("Row of no size:", l, e)
	}
	if l, e := slice.Row(4, []api.Sample{{V: 1}, {V: 0.1}}); l != nil || e != api.ErrGrid {
		t.Error("Row off the grid:", l, e)
	}
	if l, e := slice.Row(4, make([]api.Sample, api.MaxSamples+1)); l != nil || e != api.ErrArg {
		t.Error("Row too long:", len(l), e)
	}
	if l, e := slice.Row(128, make([]api.Sample, api.MaxSamples)); len(l) != api.MaxSamples || e != api.OK {
		t.Error("the longest row:", len(l), e)
	}
}

func TestP5_3WithinHalf(t *testing.T) {
	r := rand.New(rand.NewSource(1))
	for _, size := range sizes {
		for label := range size {
			z, _ := points.At(size, label)
			off := complex(float64(r.Intn(8191)-4095)/4096, float64(r.Intn(8191)-4095)/4096)
			for _, x := range []complex128{z, z + off, z + complex(4095.0/4096, -4095.0/4096)} {
				if d, e := slice.Decide(size, x); d.Label != label || d.V != z || d.Lost || e != api.OK {
					t.Fatal("within half the distance:", size, z, x, d, e)
				}
			}
			d, _ := slice.Decide(size, z+8*off)
			if again, _ := slice.Decide(size, d.V); again != d {
				t.Fatal("decided again:", size, d, again)
			}
		}
	}
}

func TestP5_4Least(t *testing.T) {
	r := rand.New(rand.NewSource(2))
	for _, size := range sizes {
		for range 300 {
			z := complex(float64(r.Intn(1<<19)-1<<18)/(1<<14), float64(r.Intn(1<<19)-1<<18)/(1<<14))
			d, _ := slice.Decide(size, z)
			own, _ := slice.Gap(size, z, d.Label)
			same := 0
			for label := range size {
				g, _ := slice.Gap(size, z, label)
				if g < own {
					t.Fatal("a lesser gap:", size, z, d, label)
				}
				if g == own {
					same++
				}
			}
			if same > 1 || math.Mod(real(z), 2) == 0 || math.Mod(imag(z), 2) == 0 {
				continue
			}
			n := r.Intn(9) - 4
			turned, _ := slice.Decide(size, plane.Turn(z, n))
			if want, _ := points.Turned(size, d.Label, n); turned.Label != want {
				t.Fatal("turned:", size, z, n, turned, want)
			}
		}
	}
	before := -15
	for x := -17.0; x <= 17; x += 1.0 / 64 {
		n, _ := slice.Axis(x, 15)
		if n < before {
			t.Fatal("Axis falls:", x)
		}
		before = n
	}
}
