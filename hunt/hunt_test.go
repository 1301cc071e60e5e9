package hunt_test

import (
	"math"
	"math/rand"
	"reflect"
	"slices"
	"testing"

	"foghorn/api"
	"foghorn/hunt"
	"foghorn/plane"
	"foghorn/pulse"
	"foghorn/strait"
)

var nan, inf = math.NaN(), math.Inf(1)

func row(l ...complex128) []api.Sample {
	out := make([]api.Sample, len(l))
	for i, z := range l {
		out[i].V = z
	}
	return out
}

func named(t *testing.T, name string, rate int) api.Pulse {
	p, e := pulse.Named(name, rate)
	if e != api.OK {
		t.Fatal(name, rate, e)
	}
	return p
}

func TestP13_1Find(t *testing.T) {
	torn := row(200, -64i)
	torn[0].Lost = true
	for _, c := range []struct {
		l    []api.Sample
		want api.Found
		e    api.Errno
	}{
		{row(0, 3i, 32+1i, 128), api.Found{At: 2, Size: 0.25}, api.OK}, {row(15.99, complex(15.99, -15.99)), api.Found{}, api.ErrNone}, {torn, api.Found{At: 1, Size: 0.5, Quarters: 3}, api.OK},
		{row(100 + 100i), api.Found{Size: 1}, api.OK}, {row(-100 + 100i), api.Found{Size: 1, Quarters: 2}, api.OK}, {row(complex(16, 16.5)), api.Found{Size: 0.25, Quarters: 1}, api.OK}, {row(-48), api.Found{Size: 0.5, Quarters: 2}, api.OK},
		{row(47.75i), api.Found{Size: 0.25, Quarters: 1}, api.OK}, {row(96), api.Found{Size: 1}, api.OK}, {row(95.75), api.Found{Size: 0.5}, api.OK}, {row(complex(nan, -96)), api.Found{Size: 1, Quarters: 3}, api.OK},
		{row(complex(-48, nan)), api.Found{Size: 0.5, Quarters: 2}, api.OK}, {row(complex(nan, nan), complex(15, nan)), api.Found{}, api.ErrNone}, {row(complex(0, -inf)), api.Found{Size: 1, Quarters: 3}, api.OK}, {nil, api.Found{}, api.ErrNone},
	} {
		if f, e := hunt.Find(c.l, 0, len(c.l)); f != c.want || e != c.e {
			t.Error("Find:", c.l, f, e)
		}
	}
	l := row(16, 0, 16)
	for _, c := range []struct {
		from, to, at int
		e            api.Errno
	}{{1, 3, 2, api.OK}, {1, 2, 0, api.ErrNone}, {3, 3, 0, api.ErrNone}, {-1, 3, 0, api.ErrArg}, {2, 1, 0, api.ErrArg}, {0, 4, 0, api.ErrArg}, {math.MaxInt, math.MaxInt, 0, api.ErrArg}} {
		if f, e := hunt.Find(l, c.from, c.to); f.At != c.at || e != c.e {
			t.Error("Find:", c, f, e)
		}
	}
	if f, e := hunt.Find(make([]api.Sample, api.MaxSamples+1), 0, 1); f != (api.Found{}) || e != api.ErrArg {
		t.Error("Find in a row too long:", f, e)
	}
}

func TestP13_2Undo(t *testing.T) {
	for _, c := range []struct {
		z    complex128
		f    api.Found
		want complex128
	}{{-32i, api.Found{Size: 0.25, Quarters: 3}, 128}, {1i, api.Found{Size: 1, Quarters: -3}, 1}, {1 + 2i, api.Found{Size: 0.5, Quarters: 5}, 4 - 2i}, {1, api.Found{Size: 1, Quarters: math.MinInt}, 1}} {
		if z, e := hunt.Undo(c.z, c.f); z != c.want || e != api.OK {
			t.Error("Undo:", c, z, e)
		}
	}
	if z, e := hunt.Undo(complex(inf, nan), api.Found{Size: 0.5, Quarters: 1}); !math.IsNaN(real(z)) || imag(z) != -inf || e != api.OK {
		t.Error("Undo of any floats:", z, e)
	}
	for _, size := range []float64{0, 0.125, 2, -1, nan} {
		if z, e := hunt.Undo(1, api.Found{Size: size}); z != 0 || e != api.ErrArg {
			t.Error("Undo:", size, z, e)
		}
	}
}

func TestP13_3Plan(t *testing.T) {
	p := named(t, "tent", 2)
	if n, e := hunt.Guard(p, 1); n != 7 || e != api.OK {
		t.Error("Guard:", n, e)
	}
	want := api.Places{Marker: 7, Train: [2]int{15, 26}, Blocks: []int{37, 49}, Length: 61}
	l, e := hunt.Plan(p, 1, 2, 2, 2)
	if !reflect.DeepEqual(l, want) || e != api.OK {
		t.Error("Plan:", l, e)
	}
	later, e := hunt.Shift(l, 4)
	if !reflect.DeepEqual(later, api.Places{Marker: 11, Train: [2]int{19, 30}, Blocks: []int{41, 53}, Length: 65}) || e != api.OK {
		t.Error("Shift:", later, e)
	}
	later.Blocks[0] = 9
	if l.Blocks[0] != 37 {
		t.Error("Shift shares the places")
	}
	for _, by := range []int{-8, api.MaxSamples, math.MinInt, math.MaxInt} {
		if l, e := hunt.Shift(l, by); !reflect.DeepEqual(l, api.Places{}) || e != api.ErrArg {
			t.Error("Shift:", by, l, e)
		}
	}
	for _, bad := range []api.Places{{Marker: -1}, {Train: [2]int{0, api.MaxSamples + 1}}, {Blocks: []int{0, math.MaxInt}}, {Length: math.MinInt}} {
		if l, e := hunt.Shift(bad, 1); !reflect.DeepEqual(l, api.Places{}) || e != api.ErrArg {
			t.Error("Shift:", bad, l, e)
		}
		if _, e := hunt.Shift(bad, -1); e != api.ErrArg {
			t.Error("Shift:", bad, e)
		}
	}
	if l, e := hunt.Shift(api.Places{Length: api.MaxSamples}, 0); l.Length != api.MaxSamples || e != api.OK {
		t.Error("Shift by nothing:", l, e)
	}
	for _, c := range [][4]int{{1, 3, 2, 2}, {0, 2, 2, 2}, {65, 2, 2, 2}, {1, 1, 2, 2}, {1, 512, 2, 2}, {1, 0, 2, 2}, {1, 2, -1, 2}, {1, 2, 2, -1}, {1, 2, 2, 9999}, {1, 2, 0, math.MaxInt}, {1, 2, math.MaxInt, 0}, {1, 2, 33000, 1}, {1, math.MinInt, 1, 1}} {
		if l, e := hunt.Plan(p, c[0], c[1], c[2], c[3]); !reflect.DeepEqual(l, api.Places{}) || e != api.ErrArg {
			t.Error("Plan:", c, l, e)
		}
	}
	for p, want := range map[*api.Pulse]api.Errno{{Rate: 9, Taps: []float64{1}}: api.ErrArg, {Rate: 1, Taps: []float64{2}}: api.ErrTaps} {
		if n, e := hunt.Guard(*p, 0); n != 0 || e != want {
			t.Error("Guard:", p, n, e)
		}
		if _, e := hunt.Plan(*p, 0, 0, 0, 0); e != want {
			t.Error("Plan:", p, e)
		}
	}
	if n, e := hunt.Guard(p, 65); n != 0 || e != api.ErrArg {
		t.Error("Guard:", n, e)
	}
	if l, e := hunt.Plan(named(t, "spike", 1), 64, 256, 0, 0); l.Length != 5*66+1+512-66 || len(l.Blocks) != 0 || e != api.OK {
		t.Error("Plan without blocks:", l, e)
	}
}

func TestP13_4To6Arrival(t *testing.T) {
	r := rand.New(rand.NewSource(1))
	small := func() complex128 {
		return complex(float64(r.Intn(8191)-4095)/4096, float64(r.Intn(8191)-4095)/4096)
	}
	for range 200 {
		size, quarters, at := []float64{1, 0.5, 0.25}[r.Intn(3)], r.Intn(4), r.Intn(9)
		taps := []complex128{plane.Turn(complex(size, 0), quarters), complex(-1, 1), 0.5}
		x := make([]complex128, at+9)
		x[at] = hunt.Marker
		for i := at + 1; i < len(x); i++ {
			x[i] = complex(float64(r.Intn(200)-100), 100)
		}
		disturb := make([]complex128, 30)
		for i := range disturb {
			disturb[i] = small()
		}
		s := api.Strait{Rate: 1, Delay: r.Intn(5), Taps: taps}
		l, e := strait.Arrive(s, x, nil, disturb, nil, 30)
		f, g := hunt.Find(l, 0, 30)
		if f != (api.Found{At: at + s.Delay, Size: size, Quarters: quarters}) || e != api.OK || g != api.OK {
			t.Fatal("arrival:", s, at, f, e, g)
		}
		if _, e := hunt.Find(l, 0, f.At); e != api.ErrNone {
			t.Fatal("ahead of it:", e)
		}
		if back, _ := hunt.Undo(taps[0]*128, f); back != 128 {
			t.Fatal("undone:", f, back)
		}
		n := r.Intn(4)
		turned := append(make([]api.Sample, 3), l...)
		for i := range turned {
			turned[i].V = plane.Turn(turned[i].V, n)
		}
		if o, _ := hunt.Find(turned, 0, 33); o != (api.Found{At: f.At + 3, Size: size, Quarters: (quarters + n) & 3}) {
			t.Fatal("turned and late:", f, n, o)
		}
	}
}

func TestP13_7Apart(t *testing.T) {
	r := rand.New(rand.NewSource(2))
	for _, p := range []api.Pulse{named(t, "tent", 4), named(t, "soft", 2), named(t, "spike", 8), named(t, "box", 3)} {
		taps := 1 + r.Intn(5)
		l, e := hunt.Plan(p, taps, 4, 3, 2)
		if e != api.OK {
			t.Fatal("Plan:", e)
		}
		long, _ := pulse.Length(p, 3)
		pieces := []struct{ at, long int }{{l.Marker, 1}, {l.Train[0], 4 * p.Rate}, {l.Train[1], 4 * p.Rate}, {l.Blocks[0], long}, {l.Blocks[1], long}}
		d := r.Intn(9)
		s := api.Strait{Rate: p.Rate, Delay: d, Taps: slices.Repeat([]complex128{0.25}, taps)}
		for i, piece := range pieces {
			x := make([]complex128, l.Length)
			for n := range piece.long {
				x[piece.at+n] = 1
			}
			got, _ := strait.Pass(s, x, nil, l.Length+d)
			for m, z := range got {
				if z != 0 && (m < piece.at+d || i+1 < len(pieces) && m >= pieces[i+1].at+d) {
					t.Fatal("not apart:", p, i, m)
				}
			}
		}
	}
}
