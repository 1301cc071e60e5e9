package near_test

import (
	"math"
	"math/rand"
	"slices"
	"testing"

	"foghorn/api"
	"foghorn/near"
	"foghorn/strait"
	"foghorn/train"
)

type Z = []complex128

var (
	nan  = math.NaN()
	lost = api.Sample{Lost: true}
	long = make(Z, api.MaxSamples+1)
)

func row(l ...complex128) []api.Sample {
	out := make([]api.Sample, len(l))
	for i, z := range l {
		out[i].V = z
	}
	return out
}

func some(r *rand.Rand, n, edge, steps int) Z {
	l := make(Z, n)
	for i := range l {
		l[i] = complex(float64(r.Intn(2*edge*steps+1)-edge*steps)/float64(steps), float64(r.Intn(2*edge*steps+1)-edge*steps)/float64(steps))
	}
	return l
}

func taps(r *rand.Rand) Z {
	l := some(r, r.Intn(6), 1, 64)
	for i := range l {
		l[i] /= 4
		l[i] = complex(math.Trunc(real(l[i])*64)/64, math.Trunc(imag(l[i])*64)/64)
	}
	return l
}

func TestP15_1Echo(t *testing.T) {
	for _, c := range []struct {
		own, echo Z
		n         int
		want      Z
		e         api.Errno
	}{
		{Z{1, 2}, Z{0.5i}, 3, Z{0.5i, 1i, 0}, api.OK}, {Z{1}, nil, 2, Z{0, 0}, api.OK}, {Z{1, 2, 3}, Z{0, 1}, 2, Z{0, 1}, api.OK}, {nil, Z{1}, 0, nil, api.OK},
		{Z{129}, Z{1}, 1, nil, api.ErrGrid}, {Z{1.0 / 128}, Z{2}, 1, nil, api.ErrGrid}, {Z{complex(0, nan)}, nil, 1, nil, api.ErrGrid}, {Z{1}, Z{2}, 1, nil, api.ErrTaps}, {Z{1}, make(Z, 65), 1, nil, api.ErrTaps},
		{Z{129}, Z{2}, -1, nil, api.ErrArg}, {nil, nil, api.MaxSamples + 1, nil, api.ErrArg}, {long, nil, 1, nil, api.ErrArg},
	} {
		if l, e := near.Echo(c.own, c.echo, c.n); e != c.e || !slices.Equal(l, c.want) {
			t.Error("Echo:", len(c.own), c.echo, c.n, len(l), e)
		}
	}
}

func TestP15_1AddAndOff(t *testing.T) {
	l := []api.Sample{{V: 3}, lost}
	added, e := near.Add(l, Z{1, 1}, Z{0.5})
	if e != api.OK || !slices.Equal(added, []api.Sample{{V: 3.5}, lost}) {
		t.Error("Add:", added, e)
	}
	if back, e := near.Off(added, Z{1, 1}, Z{0.5}); e != api.OK || !slices.Equal(back, l) {
		t.Error("Off:", back, e)
	}
	if added, e := near.Add(row(1024, -1024), Z{1, 1}, Z{1}); e != api.OK || added[0] != lost || added[1].V != -1023 {
		t.Error("Add past the edge:", added, e)
	}
	if off, e := near.Off(row(1024i, 1), Z{-1i}, Z{1}); e != api.OK || off[0] != lost || off[1].V != 1 {
		t.Error("Off past the edge:", off, e)
	}
	for _, f := range []func([]api.Sample, Z, Z) ([]api.Sample, api.Errno){near.Add, near.Off} {
		for _, c := range []struct {
			l         []api.Sample
			own, echo Z
			e         api.Errno
		}{{make([]api.Sample, api.MaxSamples+1), nil, nil, api.ErrArg}, {row(0.1), long, nil, api.ErrArg}, {row(0.1), nil, Z{2}, api.ErrGrid}, {nil, Z{0.001}, Z{2}, api.ErrGrid}, {row(1), nil, Z{2}, api.ErrTaps}} {
			if l, e := f(c.l, c.own, c.echo); l != nil || e != c.e {
				t.Error("refused:", len(c.l), len(c.own), e)
			}
		}
	}
}

func TestP15_2LearnAndLoud(t *testing.T) {
	p := train.Plan{Order: 1, Rate: 1, Guard: 1}
	if l, e := near.Learn(p, row(64, 64, 0, 64, -64, 0), 0, 2); e != api.OK || !slices.Equal(l, Z{0.5, 0}) {
		t.Error("Learn:", l, e)
	}
	p.Rate = 2
	if l, e := near.Learn(p, row(0.1), 0, 2); l != nil || e != api.ErrArg {
		t.Error("Learn at the rate 2:", l, e)
	}
	p.Rate = 1
	if l, e := near.Learn(p, row(0.1), 0, 2); l != nil || e != api.ErrGrid {
		t.Error("Learn off the grid:", l, e)
	}
	if l, e := near.Learn(p, []api.Sample{lost}, 0, 2); l != nil || e != api.ErrLost {
		t.Error("Learn of a lost one:", l, e)
	}
	for _, c := range []struct {
		l    []api.Sample
		size float64
		at   int
		e    api.Errno
	}{{[]api.Sample{{V: 1}, {V: -3i}, lost, {V: 3}}, 3, 1, api.OK}, {[]api.Sample{lost, lost}, 0, 0, api.ErrNone}, {nil, 0, 0, api.ErrNone}, {[]api.Sample{lost, {}}, 0, 1, api.OK}, {row(1, 0.1), 0, 0, api.ErrGrid}, {make([]api.Sample, api.MaxSamples+1), 0, 0, api.ErrArg}} {
		if size, at, e := near.Loud(c.l); size != c.size || at != c.at || e != c.e {
			t.Error("Loud:", len(c.l), size, at, e)
		}
	}
}

func TestP15_3Line(t *testing.T) {
	echo := Z{0.5}
	l, e := near.New(echo)
	echo[0] = 1
	for i, c := range []struct {
		own complex128
		s   api.Sample
		out api.Sample
		e   api.Errno
	}{{1, api.Sample{V: 2}, api.Sample{V: 1.5}, api.OK}, {0, api.Sample{V: 2}, api.Sample{V: 2}, api.OK}, {200, api.Sample{}, api.Sample{}, api.ErrGrid}, {1, api.Sample{V: 0.1}, api.Sample{}, api.ErrGrid}, {2, lost, lost, api.OK}, {-1, api.Sample{V: 1024}, lost, api.OK}} {
		if s, f := l.Hear(c.own, c.s); s != c.out || f != c.e || e != api.OK {
			t.Error("Hear:", i, s, f)
		}
	}
	if n := l.Heard(); n != 4 {
		t.Error("Heard:", n)
	}
	if e := l.Clear(); e != api.OK || l.Heard() != 0 {
		t.Error("Clear:", e)
	}
	for _, echo := range []Z{{2}, make(Z, 65), {0.001}} {
		if l, e := near.New(echo); l != nil || e != api.ErrTaps {
			t.Error("New:", e)
		}
	}
	var none *near.Line
	_, e1 := none.Hear(200, api.Sample{})
	if e2 := none.Clear(); e1 != api.ErrNil || e2 != api.ErrNil || none.Heard() != 0 {
		t.Error("a nil line:", e1, e2)
	}
	var made near.Line
	made.Hear(1, api.Sample{V: 1})
	made.Clear()
}

func TestP15_4And6Both(t *testing.T) {
	r := rand.New(rand.NewSource(1))
	for range 200 {
		echo, n := taps(r), r.Intn(100)
		l, own := row(some(r, n, 500, 4096)...), some(r, r.Intn(100), 100, 64)
		for i := range l {
			if r.Intn(9) == 0 {
				l[i] = lost
			}
		}
		added, e := near.Add(l, own, echo)
		back, f := near.Off(added, own, echo)
		if e != api.OK || f != api.OK || !slices.Equal(back, l) {
			t.Fatal("Off of Add:", echo, e, f)
		}
		silent, _ := near.Off(l, make(Z, 50), echo)
		deaf, _ := near.Add(l, own, nil)
		if !slices.Equal(silent, l) || !slices.Equal(deaf, l) {
			t.Fatal("nothing to take")
		}
		line, _ := near.New(echo)
		line.Hear(3, api.Sample{})
		line.Clear()
		for i, s := range added {
			var z complex128
			if i < len(own) {
				z = own[i]
			}
			if got, e := line.Hear(z, s); got != back[i] || e != api.OK {
				t.Fatal("sample by sample:", i, got, back[i], e)
			}
		}
	}
}

func TestP15_5Learnt(t *testing.T) {
	r := rand.New(rand.NewSource(2))
	for range 100 {
		echo := append(taps(r), 0.25)
		p := train.Plan{Order: 1 + r.Intn(8), Rate: 1, Guard: len(echo) - 1 + r.Intn(2)}
		own, _ := p.Laid()
		disturb := some(r, len(own), 1, 4096)
		for i, z := range disturb {
			disturb[i] = complex(real(z)*0.5, imag(z)*0.5)
			disturb[i] = complex(math.Trunc(real(disturb[i])*4096)/4096, math.Trunc(imag(disturb[i])*4096)/4096)
		}
		l, e := strait.Arrive(api.Strait{Rate: 1, Taps: Z{1}, Echo: echo}, nil, own, disturb, nil, len(own))
		if got, f := near.Learn(p, l, 0, len(echo)); e != api.OK || f != api.OK || !slices.Equal(got, echo) {
			t.Fatal("Learn:", p, got, echo, e, f)
		}
	}
}
