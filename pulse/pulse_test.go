package pulse_test

import (
	"math"
	"math/rand"
	"reflect"
	"slices"
	"testing"

	"foghorn/api"
	"foghorn/plane"
	"foghorn/pulse"
)

type P = api.Pulse

var nan = math.NaN()

func of(rate, fore int, taps []float64) P { return P{Rate: rate, Fore: fore, Taps: taps} }

func tent(t *testing.T, rate int) P {
	p, e := pulse.Named("tent", rate)
	if e != api.OK {
		t.Fatal("tent:", rate, e)
	}
	return p
}

func all(t *testing.T) []P {
	l := []P{{Rate: 3, Fore: 1, Taps: []float64{0.5, 1, -0.25, 1.0 / 64}}, {Rate: 1, Fore: 2, Taps: []float64{0, 0, 1, 0}}}
	for name, rates := range map[string][]int{"spike": {1, 2, 3, 4, 5, 6, 7, 8}, "box": {1, 2, 3, 4}, "tent": {1, 2, 4}, "soft": {2}} {
		for _, rate := range rates {
			p, e := pulse.Named(name, rate)
			if e != api.OK || pulse.Check(p) != api.OK || p.Rate != rate {
				t.Error("Named:", name, rate, p, e)
			}
			l = append(l, p)
		}
	}
	return l
}

func TestP7_1Check(t *testing.T) {
	for _, c := range []struct {
		p P
		e api.Errno
	}{
		{of(1, 0, []float64{1}), api.OK}, {of(2, 1, []float64{0.5, 1, 0.5}), api.OK}, {of(2, 0, []float64{1, 0, 0.5}), api.ErrTaps},
		{of(2, 0, []float64{0.5}), api.ErrTaps}, {of(9, 0, []float64{1}), api.ErrArg}, {of(0, 0, []float64{1}), api.ErrArg}, {of(1, 1, []float64{1}), api.ErrArg},
		{of(1, 0, nil), api.ErrArg}, {of(1, -1, []float64{1}), api.ErrArg}, {of(2, 0, []float64{1, nan}), api.ErrTaps}, {of(2, 0, []float64{1, 1.0 / 128}), api.ErrTaps},
		{of(8, 0, []float64{1, 1, 1, 1}), api.OK}, {of(8, 0, []float64{1, 1, 1, -1, 1.0 / 64}), api.ErrTaps}, {of(8, 0, []float64{1, 1.5}), api.ErrTaps},
		{of(2, 2, []float64{0.5, 0, 1}), api.ErrTaps}, {of(1, 0, append([]float64{1}, make([]float64, 63)...)), api.OK}, {of(1, 0, append([]float64{1}, make([]float64, 64)...)), api.ErrTaps},
		{of(9, 0, []float64{nan}), api.ErrArg}, {of(math.MinInt, math.MaxInt, []float64{1}), api.ErrArg}, {of(2, 0, []float64{1, math.Inf(1)}), api.ErrTaps},
	} {
		if e := pulse.Check(c.p); e != c.e {
			t.Error("Check:", c.p, e)
		}
		if _, e := pulse.Length(c.p, 0); e != c.e {
			t.Error("Length:", c.p, e)
		}
		if _, e := pulse.Shape(c.p, nil); e != c.e {
			t.Error("Shape:", c.p, e)
		}
		if _, e := pulse.Pick(c.p, nil, 0, 0); e != c.e {
			t.Error("Pick:", c.p, e)
		}
		if _, _, e := pulse.Touch(c.p, 1, 0); e != c.e {
			t.Error("Touch:", c.p, e)
		}
		if _, e := pulse.Turned(c.p); e != c.e {
			t.Error("Turned:", c.p, e)
		}
		if _, e := pulse.Stretch(c.p, 1); e != c.e {
			t.Error("Stretch:", c.p, e)
		}
	}
}

func TestP7_1Named(t *testing.T) {
	for _, c := range []struct {
		name string
		rate int
		want P
		e    api.Errno
	}{
		{"tent", 2, of(2, 1, []float64{0.5, 1, 0.5}), api.OK}, {"tent", 1, of(1, 0, []float64{1}), api.OK}, {"tent", 4, of(4, 3, []float64{0.25, 0.5, 0.75, 1, 0.75, 0.5, 0.25}), api.OK},
		{"spike", 8, of(8, 0, []float64{1}), api.OK}, {"box", 3, of(3, 0, []float64{1, 1, 1}), api.OK}, {"soft", 2, of(2, 3, []float64{-1.0 / 16, 0, 9.0 / 16, 1, 9.0 / 16, 0, -1.0 / 16}), api.OK},
		{"tent", 3, P{}, api.ErrArg}, {"soft", 4, P{}, api.ErrArg}, {"spike", 9, P{}, api.ErrArg}, {"spike", 0, P{}, api.ErrArg}, {"box", 5, P{}, api.ErrArg}, {"box", -1, P{}, api.ErrArg},
		{"hill", 2, P{}, api.ErrNone}, {"", 0, P{}, api.ErrNone}, {"Tent", 2, P{}, api.ErrNone},
	} {
		if p, e := pulse.Named(c.name, c.rate); !reflect.DeepEqual(p, c.want) || e != c.e {
			t.Error("Named:", c.name, c.rate, p, e)
		}
	}
	p, _ := pulse.Named("soft", 2)
	p.Taps[0] = 9
	if q, _ := pulse.Named("soft", 2); q.Taps[0] == 9 {
		t.Error("a pulse is shared")
	}
}

func TestP7_2Shape(t *testing.T) {
	p := tent(t, 2)
	if l, e := pulse.Shape(p, []complex128{2, 4i}); e != api.OK || !slices.Equal(l, []complex128{1, 2, 1 + 2i, 4i, 2i}) {
		t.Error("Shape:", l, e)
	}
	if n, e := pulse.Length(p, 2); n != 5 || e != api.OK {
		t.Error("Length:", n, e)
	}
	if n, e := pulse.Length(p, 0); n != 0 || e != api.OK {
		t.Error("Length of none:", n, e)
	}
	spike, _ := pulse.Named("spike", 3)
	if l, e := pulse.Shape(spike, []complex128{1, 1}); e != api.OK || !slices.Equal(l, []complex128{1, 0, 0, 1}) {
		t.Error("Shape by the spike:", l, e)
	}
	for _, n := range []int{-1, math.MinInt, math.MaxInt, 32768} {
		if m, e := pulse.Length(p, n); m != 0 || e != api.ErrArg {
			t.Error("Length:", n, m, e)
		}
	}
	if n, e := pulse.Length(p, 32767); n != 65535 || e != api.OK {
		t.Error("the greatest length:", n, e)
	}
	if l, e := pulse.Shape(p, make([]complex128, 32768)); l != nil || e != api.ErrArg {
		t.Error("Shape of too many:", e)
	}
	for _, z := range []complex128{129, 1.0 / 128, complex(0, nan), complex(math.Inf(1), 0)} {
		if l, e := pulse.Shape(p, []complex128{1, z}); l != nil || e != api.ErrGrid {
			t.Error("Shape:", z, l, e)
		}
	}
}

func TestP7_3PickAndTouch(t *testing.T) {
	p := tent(t, 2)
	row := []api.Sample{{V: 1}, {V: 2}, {Lost: true}, {V: complex(0, 4)}, {V: 2i}}
	if l, e := pulse.Pick(p, row, 0, 3); e != api.OK || !slices.Equal(l, []api.Sample{row[0], row[2], row[4]}) {
		t.Error("Pick:", l, e)
	}
	if l, e := pulse.Pick(p, row, 9, 0); len(l) != 0 || e != api.OK {
		t.Error("Pick of none:", l, e)
	}
	for _, c := range [][2]int{{2, 3}, {-1, 1}, {0, -1}, {5, 1}, {0, math.MaxInt}, {math.MaxInt, math.MaxInt}, {math.MaxInt, 1}, {3, 2}} {
		if l, e := pulse.Pick(p, row, c[0], c[1]); l != nil || e != api.ErrArg {
			t.Error("Pick:", c, l, e)
		}
	}
	if _, e := pulse.Pick(p, make([]api.Sample, api.MaxSamples+1), 0, 1); e != api.ErrArg {
		t.Error("Pick of a row too long:", e)
	}
	for _, p := range all(t) {
		for n := range 5 {
			long, _ := pulse.Length(p, n)
			for at := range long {
				first, behind := 0, 0
				for k := range n {
					if i := at - k*p.Rate; i >= 0 && i < len(p.Taps) {
						if behind == 0 {
							first = k
						}
						behind = k + 1
					}
				}
				if f, b, e := pulse.Touch(p, n, at); f != first || b != behind || e != api.OK {
					t.Error("Touch:", p, n, at, f, b, e)
				}
			}
			for _, at := range []int{-1, long, math.MaxInt} {
				if f, b, e := pulse.Touch(p, n, at); f != 0 || b != 0 || e != api.ErrArg {
					t.Error("Touch:", p, n, at, f, b, e)
				}
			}
		}
	}
}

func TestP7_4And8Turned(t *testing.T) {
	p := tent(t, 2)
	if s, e := pulse.Stretch(p, 2); !reflect.DeepEqual(s, of(4, 2, []float64{0.5, 0, 1, 0, 0.5})) || e != api.OK {
		t.Error("Stretch:", s, e)
	}
	for _, m := range []int{0, -1, 5, math.MaxInt} {
		if s, e := pulse.Stretch(p, m); s.Taps != nil || e != api.ErrArg {
			t.Error("Stretch:", m, s, e)
		}
	}
	long := of(1, 0, append([]float64{1}, make([]float64, 32)...))
	if s, e := pulse.Stretch(long, 2); s.Taps != nil || e != api.ErrTaps {
		t.Error("Stretch past the taps:", s, e)
	}
	r := rand.New(rand.NewSource(1))
	for _, p := range all(t) {
		points := some(r, 1+r.Intn(9))
		turned, e := pulse.Turned(p)
		if pulse.Check(turned) != api.OK || e != api.OK {
			t.Error("Turned:", p, turned, e)
		}
		there, _ := pulse.Shape(p, points)
		slices.Reverse(points)
		back, _ := pulse.Shape(turned, points)
		slices.Reverse(back)
		if !slices.Equal(there, back) {
			t.Error("turned about:", p)
		}
		slices.Reverse(points)
		m := 8 / p.Rate
		wide, e := pulse.Stretch(p, m)
		if pulse.Check(wide) != api.OK || e != api.OK {
			t.Error("Stretch:", p, m, wide, e)
		}
		stretched, _ := pulse.Shape(wide, points)
		for i, z := range stretched {
			if i%m == 0 && z != there[i/m] || i%m != 0 && z != 0 {
				t.Error("stretched:", p, m, i)
			}
		}
	}
}

func some(r *rand.Rand, n int) []complex128 {
	l := make([]complex128, n)
	for i := range l {
		l[i] = complex(float64(r.Intn(4096)-2048)/64, float64(r.Intn(4096)-2048)/64)
	}
	return l
}

func TestP7_5To7Rows(t *testing.T) {
	r := rand.New(rand.NewSource(2))
	for _, p := range all(t) {
		n := 1 + r.Intn(9)
		a, b := some(r, n), some(r, n)
		one, _ := pulse.Shape(p, a)
		two, _ := pulse.Shape(p, b)
		row := make([]api.Sample, len(one))
		for i, z := range one {
			row[i].V = z
		}
		picked, e := pulse.Pick(p, row, p.Fore, n)
		for i, s := range picked {
			if s.V != a[i] || e != api.OK {
				t.Fatal("picked:", p, i, s, a[i])
			}
		}
		sum := make([]complex128, n)
		turned := make([]complex128, n)
		for i := range sum {
			sum[i], turned[i] = a[i]+b[i], plane.Turn(a[i], 3)
		}
		three, _ := pulse.Shape(p, sum)
		four, _ := pulse.Shape(p, turned)
		for i := range three {
			if three[i] != one[i]+two[i] || four[i] != plane.Turn(one[i], 3) {
				t.Fatal("linear:", p, i)
			}
		}
		k := r.Intn(n)
		b = slices.Clone(a)
		b[k]++
		two, _ = pulse.Shape(p, b)
		for at := range two {
			from, behind, _ := pulse.Touch(p, n, at)
			if two[at] != one[at] && (k < from || k >= behind) {
				t.Fatal("near:", p, k, at)
			}
		}
	}
}
