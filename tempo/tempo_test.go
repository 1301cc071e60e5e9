package tempo_test

import (
	"math"
	"math/rand"
	"slices"
	"testing"

	"foghorn/api"
	"foghorn/plane"
	"foghorn/tempo"
)

type C = tempo.Clock

var (
	nan    = math.NaN()
	clocks = []C{{-1, 1, 1}, {api.MaxSamples + 1, 1, 1}, {0, 1, 2}, {0, 0, 0}, {0, 1, 0}, {0, 65537, 1}, {0, 65537, 65537}, {0, -1, -1}, {math.MaxInt, math.MaxInt, math.MinInt}}
	lost   = api.Sample{Lost: true}
)

func row(l ...complex128) []api.Sample {
	out := make([]api.Sample, len(l))
	for i, z := range l {
		out[i].V = z
	}
	return out
}

// unlike is a row no sample of which is like another one.
func unlike(n int) []api.Sample {
	out := make([]api.Sample, n)
	for i := range out {
		out[i].V = complex(float64(i+1), 0)
	}
	return out
}

func TestP12_1Clocks(t *testing.T) {
	for k, want := range []int{3, 5, 8, 10, 13} {
		if at, e := tempo.At(C{3, 5, 2}, k); at != want || e != api.OK {
			t.Error("At:", k, at, e)
		}
	}
	if n, e := tempo.Long(C{3, 5, 2}, 4); n != 2 || e != api.OK {
		t.Error("Long:", n, e)
	}
	if at, e := tempo.At(C{65536, 65536, 1}, 65536); at != 65536+1<<32 || e != api.OK {
		t.Error("the last instant:", at, e)
	}
	for _, c := range clocks {
		if at, e := tempo.At(c, 0); at != 0 || e != api.ErrArg {
			t.Error("At:", c, at, e)
		}
		if n, e := tempo.Long(c, 0); n != 0 || e != api.ErrArg {
			t.Error("Long:", c, n, e)
		}
		if l, e := tempo.Pick(c, nil, 0); l != nil || e != api.ErrArg {
			t.Error("Pick:", c, e)
		}
	}
	for _, k := range []int{-1, api.MaxSamples + 1, math.MinInt, math.MaxInt} {
		if at, e := tempo.At(C{0, 2, 1}, k); at != 0 || e != api.ErrArg {
			t.Error("At:", k, at, e)
		}
		if n, e := tempo.Long(C{0, 2, 1}, k); n != 0 || e != api.ErrArg {
			t.Error("Long:", k, n, e)
		}
		if l, e := tempo.Pick(C{0, 2, 1}, nil, k); l != nil || e != api.ErrArg {
			t.Error("Pick:", k, e)
		}
	}
	l := row(1, 2, 3, 4)
	l[3] = api.Sample{V: complex(nan, 0)}
	if p, e := tempo.Pick(C{1, 2, 1}, l, 3); e != api.OK || p[0] != l[1] || p[1].Lost || p[2] != lost {
		t.Error("Pick:", p, e)
	}
	if _, e := tempo.Pick(C{1, 2, 1}, make([]api.Sample, api.MaxSamples+1), 3); e != api.ErrArg {
		t.Error("Pick of a row too long:", e)
	}
}

func TestP12_2Energies(t *testing.T) {
	l := row(1, 2, 0, 3i, 9)
	if x, e := tempo.Energies(l, 2, 0, 2); e != api.OK || !slices.Equal(x, []float64{1, 13}) {
		t.Error("Energies:", x, e)
	}
	l[1] = api.Sample{V: complex(nan, 0), Lost: true}
	if x, e := tempo.Energies(l, 2, 1, 2); e != api.OK || !slices.Equal(x, []float64{9, 81}) {
		t.Error("Energies of a lost one:", x, e)
	}
	for _, c := range [][3]int{{0, 0, 1}, {9, 0, 1}, {1, -1, 1}, {1, 0, 0}, {1, 0, 65}, {2, 0, 3}, {1, 5, 1}, {1, 6, 1}, {1, math.MaxInt, 1}, {math.MinInt, 0, 1}} {
		if x, e := tempo.Energies(l, c[0], c[1], c[2]); x != nil || e != api.ErrArg {
			t.Error("Energies:", c, x, e)
		}
	}
	if _, e := tempo.Energies(make([]api.Sample, api.MaxSamples+1), 1, 0, 1); e != api.ErrArg {
		t.Error("Energies of a row too long:", e)
	}
	if x, e := tempo.Energies(make([]api.Sample, 512), 8, 0, 64); len(x) != 8 || e != api.OK {
		t.Error("the most Energies:", x, e)
	}
	for _, c := range []struct {
		l []float64
		p int
		e api.Errno
	}{{[]float64{1, 13}, 1, api.OK}, {[]float64{2, 2}, 0, api.OK}, {nil, 0, api.ErrArg}, {[]float64{1, nan}, 0, api.ErrArg}, {[]float64{-9, -3, math.Inf(-1)}, 1, api.OK}, {[]float64{1, math.Inf(1)}, 1, api.OK}} {
		if p, e := tempo.Phase(c.l); p != c.p || e != c.e {
			t.Error("Phase:", c, p, e)
		}
	}
}

func TestP12_3Slips(t *testing.T) {
	abc, xabc := row(1, 2, 3), row(9, 1, 2, 3)
	for _, c := range []struct {
		a, b             []api.Sample
		most, slip, same int
	}{{abc, xabc, 2, 1, 3}, {xabc, abc, 2, -1, 3}, {row(1), row(2), 1, 0, 0}, {nil, nil, 1024, 0, 0}, {abc, xabc, 0, 0, 0}, {row(1), row(1, 1, 1), 2, 0, 1}, {row(0, 1, 0), row(1, 0, 1), 1, 1, 2}, {row(complex(nan, 0)), row(complex(nan, 0)), 0, 0, 0}} {
		if slip, same, e := tempo.Slip(c.a, c.b, c.most); slip != c.slip || same != c.same || e != api.OK {
			t.Error("Slip:", c, slip, same, e)
		}
	}
	long := make([]api.Sample, tempo.MaxRow+1)
	for _, c := range []struct {
		a, b []api.Sample
		most int
	}{{long, nil, 1}, {nil, long, 1}, {nil, nil, -1}, {nil, nil, 1025}, {nil, nil, math.MaxInt}} {
		if slip, same, e := tempo.Slip(c.a, c.b, c.most); slip != 0 || same != 0 || e != api.ErrArg {
			t.Error("Slip:", slip, same, e)
		}
	}
	if _, same, e := tempo.Slip(long[1:], long[1:], 1024); same != tempo.MaxRow || e != api.OK {
		t.Error("the greatest Slip:", same, e)
	}
	if l, e := tempo.Slide(abc, 1, 1); e != api.OK || !slices.Equal(l, []api.Sample{abc[0], lost, abc[1], abc[2]}) {
		t.Error("Slide:", l, e)
	}
	if l, e := tempo.Slide(abc, 1, -2); e != api.OK || !slices.Equal(l, abc[:1]) {
		t.Error("Slide back:", l, e)
	}
	if l, e := tempo.Slide(abc, 3, 1024); e != api.OK || len(l) != 1027 || l[3] != lost {
		t.Error("Slide at the end:", e)
	}
	for _, c := range [][2]int{{0, -4}, {2, -2}, {-1, 0}, {4, 0}, {0, 1025}, {0, -1025}, {math.MaxInt, 0}, {0, math.MinInt}} {
		if l, e := tempo.Slide(abc, c[0], c[1]); l != nil || e != api.ErrArg {
			t.Error("Slide:", c, l, e)
		}
	}
	if _, e := tempo.Slide(make([]api.Sample, api.MaxSamples), 0, 1); e != api.ErrArg {
		t.Error("Slide past the longest row:", e)
	}
	if _, e := tempo.Slide(make([]api.Sample, api.MaxSamples+1), 0, -1); e != api.ErrArg {
		t.Error("Slide of a row too long:", e)
	}
}

func TestP12_4Instants(t *testing.T) {
	r := rand.New(rand.NewSource(1))
	for range 300 {
		den := 1 + r.Intn(20)
		c := C{r.Intn(9), den + r.Intn(50), den}
		n := r.Intn(60)
		long, _ := tempo.Long(c, n)
		last, _ := tempo.At(c, n)
		if last != c.From+n*(c.Num/c.Den)+long || c.Num%c.Den == 0 && long != 0 {
			t.Fatal("behind n steps:", c, n)
		}
		at, _ := tempo.At(c, n+den)
		next, _ := tempo.At(c, n+1)
		if at != last+c.Num || next-last != c.Num/c.Den && next-last != c.Num/c.Den+1 {
			t.Fatal("steps:", c, n)
		}
	}
	symbols := unlike(5)
	var wide []api.Sample
	for _, s := range symbols {
		wide = append(wide, s, api.Sample{}, api.Sample{})
	}
	if l, e := tempo.Pick(C{0, 3, 1}, wide, 5); e != api.OK || !slices.Equal(l, symbols) {
		t.Error("symbols:", l, e)
	}
}

func TestP12_5Phases(t *testing.T) {
	r := rand.New(rand.NewSource(2))
	for range 200 {
		period := 1 + r.Intn(8)
		p, d := r.Intn(period), r.Intn(20)
		l := make([]api.Sample, period*10+d)
		turned := slices.Clone(l)
		for n := range 10 {
			l[d+p+n*period].V = complex(float64(r.Intn(9)), 1)
		}
		for i, s := range l {
			turned[i].V = plane.Turn(s.V, 3)
		}
		x, _ := tempo.Energies(l, period, 0, 10)
		y, _ := tempo.Energies(turned, period, 0, 10)
		if at, e := tempo.Phase(x); at != (p+d)%period || e != api.OK || !slices.Equal(x, y) {
			t.Fatal("the phase:", period, p, d, at, e)
		}
	}
}

func TestP12_6Slips(t *testing.T) {
	r := rand.New(rand.NewSource(3))
	for range 100 {
		l := unlike(1 + r.Intn(40))
		s := r.Intn(20)
		late, _ := tempo.Slide(l, 0, s)
		slip, same, _ := tempo.Slip(l, late, s+r.Intn(3))
		back, again, _ := tempo.Slip(late, l, s)
		if slip != s || same != len(l) || back != -s || again != len(l) {
			t.Fatal("slips:", len(l), s, slip, same)
		}
		at := r.Intn(len(l) + 1)
		there, _ := tempo.Slide(l, at, s)
		if back, e := tempo.Slide(there, at, -s); e != api.OK || !slices.Equal(back, l) {
			t.Fatal("Slide there and back:", len(l), at, s)
		}
	}
}
