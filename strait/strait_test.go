package strait_test

import (
	"math"
	"math/rand"
	"reflect"
	"slices"
	"testing"

	"foghorn/api"
	"foghorn/grid"
	"foghorn/plane"
	"foghorn/strait"
)

type (
	S = api.Strait
	Z = []complex128
)

var nan, inf = math.NaN(), math.Inf(1)

func of(rate, delay int, taps Z, echo ...complex128) S {
	return S{Rate: rate, Delay: delay, Taps: taps, Echo: echo}
}

func some(r *rand.Rand, n, edge int) Z {
	l := make(Z, n)
	for i := range l {
		l[i] = complex(float64(r.Intn(2*64*edge+1)-64*edge)/64, float64(r.Intn(2*64*edge+1)-64*edge)/64)
	}
	return l
}

// line is a strait at random, whose taps' sizes are at most most together.
func line(r *rand.Rand, most float64) S {
	n := 1 + r.Intn(5)
	taps := make(Z, n)
	for i := range taps {
		part := min(64, int(64*most/float64(2*n)))
		taps[i] = complex(float64(r.Intn(2*part+1)-part)/64, float64(r.Intn(2*part+1)-part)/64)
	}
	return of(1+r.Intn(3), r.Intn(5), taps)
}

func TestP10_1Check(t *testing.T) {
	for _, c := range []struct {
		s S
		e api.Errno
	}{
		{of(1, 0, Z{1}), api.OK}, {of(8, api.MaxSamples, Z{1, 1i}, -1), api.OK}, {of(9, 0, Z{1}), api.ErrArg}, {of(0, 0, Z{1}), api.ErrArg}, {of(1, -1, Z{1}), api.ErrArg}, {of(1, api.MaxSamples+1, Z{1}), api.ErrArg},
		{of(1, 0, nil), api.ErrTaps}, {of(1, 0, Z{1, 1, 1, 1, 1.0 / 64}), api.ErrTaps}, {of(1, 0, Z{1.0 / 128}), api.ErrTaps}, {of(1, 0, Z{1}, 2), api.ErrTaps}, {of(1, 0, Z{1}, complex(nan, 0)), api.ErrTaps}, {of(1, 0, make(Z, 65)), api.ErrTaps},
		{of(9, 0, nil), api.ErrArg}, {S{}, api.ErrArg},
	} {
		if e := strait.Check(c.s); e != c.e {
			t.Error("Check:", c.s, e)
		}
		if _, e := strait.Pass(c.s, nil, nil, 0); e != c.e {
			t.Error("Pass:", c.s, e)
		}
		if _, e := strait.Turned(c.s, 1); e != c.e {
			t.Error("Turned:", c.s, e)
		}
		if c.e == api.OK {
			continue
		}
		if _, _, e := strait.First(c.s); e != c.e {
			t.Error("First:", c.s, e)
		}
		if _, e := strait.Arrive(c.s, nil, nil, Z{0.1}, nil, -1); e != c.e {
			t.Error("Arrive:", c.s, e)
		}
		if _, e := strait.Halved(c.s); e != c.e {
			t.Error("Halved:", c.s, e)
		}
		if _, e := strait.Join(c.s, of(1, 0, Z{1})); e != c.e {
			t.Error("Join:", c.s, e)
		}
		if _, e := strait.Join(of(1, 0, Z{1}), c.s); e != c.e {
			t.Error("Join:", c.s, e)
		}
	}
}

func TestP10_1First(t *testing.T) {
	for q := range 4 {
		for _, size := range []float64{1, 0.5, 0.25} {
			if s, n, e := strait.First(of(1, 0, Z{plane.Turn(complex(size, 0), q), 1})); s != size || n != q || e != api.OK {
				t.Error("First:", size, q, s, n, e)
			}
		}
	}
	for _, z := range []complex128{0.125, 0, 1 + 1i, 0.75} {
		if s, n, e := strait.First(of(1, 0, Z{z})); s != 0 || n != 0 || e != api.ErrNone {
			t.Error("First:", z, s, n, e)
		}
	}
}

func TestP10_2Pass(t *testing.T) {
	if l, e := strait.Pass(of(2, 1, Z{0.5, 0.25i}), Z{4, 0, 0}, nil, 6); e != api.OK || !slices.Equal(l, Z{0, 2, 0, 1i, 0, 0}) {
		t.Error("Pass:", l, e)
	}
	if l, e := strait.Pass(of(1, 0, Z{1}, 0, 1), nil, Z{8}, 3); e != api.OK || !slices.Equal(l, Z{0, 8, 0}) {
		t.Error("Pass of one's own:", l, e)
	}
	s := of(1, 0, Z{1})
	long := make(Z, api.MaxSamples+1)
	for _, c := range []struct {
		x, own Z
		n      int
		e      api.Errno
	}{{nil, nil, -1, api.ErrArg}, {nil, nil, api.MaxSamples + 1, api.ErrArg}, {long, nil, 1, api.ErrArg}, {nil, long, 1, api.ErrArg}, {Z{129}, nil, 1, api.ErrGrid}, {nil, Z{complex(0, nan)}, 1, api.ErrGrid}, {Z{1.0 / 128}, nil, 0, api.ErrGrid}, {Z{129}, nil, -1, api.ErrArg}} {
		if l, e := strait.Pass(s, c.x, c.own, c.n); l != nil || e != c.e {
			t.Error("Pass:", len(c.x), len(c.own), c.n, e)
		}
		if l, e := strait.Arrive(s, c.x, c.own, nil, nil, c.n); l != nil || e != c.e {
			t.Error("Arrive:", len(c.x), len(c.own), c.n, e)
		}
	}
	full := of(8, api.MaxSamples, slices.Repeat(Z{1.0 / 16}, 64), slices.Repeat(Z{1.0 / 16}, 64)...)
	if l, e := strait.Pass(full, long[1:], long[1:], api.MaxSamples); len(l) != api.MaxSamples || e != api.OK {
		t.Error("the greatest Pass:", e)
	}
}

func TestP10_3Arrive(t *testing.T) {
	s := of(1, 0, Z{1})
	const u = 1.0 / 4096
	for _, c := range []struct {
		disturb Z
		l       []api.Burst
		want    []api.Sample
		e       api.Errno
	}{
		{Z{0, u}, nil, []api.Sample{{V: 1}, {V: u}}, api.OK},
		{Z{0, u, 7}, []api.Burst{{N: 9, V: complex(inf, 0)}}, []api.Sample{{Lost: true}, {Lost: true}}, api.OK},
		{Z{0, u}, []api.Burst{{At: 1, N: 1, V: 5}}, []api.Sample{{V: 1}, {V: 5}}, api.OK},
		{nil, []api.Burst{{N: 2, Lost: true, V: 3}, {At: 1, N: math.MaxInt, V: u / 2}}, []api.Sample{{Lost: true}, {}}, api.OK},
		{nil, []api.Burst{{At: math.MaxInt, N: math.MaxInt, Lost: true}, {At: 2, N: 1}, {N: 0, Lost: true}}, []api.Sample{{V: 1}, {}}, api.OK},
		{Z{1024, 1024}, nil, []api.Sample{{Lost: true}, {V: 1024}}, api.OK},
		{Z{u, complex(nan, 0)}, nil, nil, api.ErrGrid}, {Z{0, 0, 0, 0.1}, nil, nil, api.ErrGrid},
		{make(Z, api.MaxSamples+1), nil, nil, api.ErrArg}, {Z{0.1}, []api.Burst{{At: -1}}, nil, api.ErrArg}, {nil, []api.Burst{{N: -1}}, nil, api.ErrArg}, {nil, make([]api.Burst, api.MaxSteps+1), nil, api.ErrArg},
	} {
		if l, e := strait.Arrive(s, Z{1}, nil, c.disturb, c.l, 2); e != c.e || !slices.Equal(l, c.want) {
			t.Error("Arrive:", len(c.disturb), c.l, l, e)
		}
	}
	if l, e := strait.Arrive(s, nil, nil, nil, slices.Repeat([]api.Burst{{At: 1, N: math.MaxInt, V: 2}}, api.MaxSteps), api.MaxSamples); e != api.OK || l[0].V != 0 || l[9].V != 2 {
		t.Error("the most bursts:", e)
	}
}

func TestP10_4Changed(t *testing.T) {
	a, b := of(1, 0, Z{1, 0.5}), of(1, 3, Z{1, -0.5})
	if s, e := strait.Join(a, b); !reflect.DeepEqual(s, S{Rate: 1, Delay: 3, Taps: Z{1, 0, -0.25}}) || e != api.OK {
		t.Error("Join:", s, e)
	}
	for _, c := range []struct {
		a, b S
		e    api.Errno
	}{
		{of(1, 0, Z{1}), of(2, 0, Z{1}), api.ErrArg}, {of(1, 0, Z{1}, 1), of(1, 0, Z{1}), api.ErrArg}, {of(1, 0, Z{1}), of(1, 0, Z{1}, 1), api.ErrArg}, {of(1, api.MaxSamples, Z{1}), of(1, 1, Z{1}), api.ErrArg},
		{of(1, 0, Z{1.0 / 64}), of(1, 0, Z{0.5}), api.ErrTaps}, {of(1, 0, Z{1, 1, 1}), of(1, 0, Z{1, 1}), api.ErrTaps}, {of(1, 0, make(Z, 40)), of(1, 0, make(Z, 26)), api.ErrTaps}, {of(9, 0, nil), of(1, 0, nil), api.ErrArg}, {of(1, 0, nil), of(9, 0, nil), api.ErrTaps},
	} {
		if s, e := strait.Join(c.a, c.b); !reflect.DeepEqual(s, S{}) || e != c.e {
			t.Error("Join:", c, s, e)
		}
	}
	if s, e := strait.Halved(of(1, 2, Z{1, 0.5i}, 1.0/64)); !reflect.DeepEqual(s, of(1, 2, Z{0.5, 0.25i}, 1.0/64)) || e != api.OK {
		t.Error("Halved:", s, e)
	}
	if s, e := strait.Halved(of(1, 0, Z{1.0 / 64})); !reflect.DeepEqual(s, S{}) || e != api.ErrTaps {
		t.Error("Halved:", s, e)
	}
	in := of(1, 0, Z{1}, 1)
	s, e := strait.Turned(in, 1)
	if e != api.OK || s.Taps[0] != 1i || s.Echo[0] != 1 || in.Taps[0] != 1 {
		t.Error("Turned:", s, e)
	}
	s.Echo[0] = 9
	if in.Echo[0] != 1 {
		t.Error("Turned shares the Echo")
	}
}

func TestP10_5To7Linear(t *testing.T) {
	r := rand.New(rand.NewSource(1))
	for range 200 {
		s := line(r, 4)
		s.Echo = line(r, 4).Taps
		x, y, own, also := some(r, 7, 60), some(r, 7, 60), some(r, 7, 60), some(r, 7, 60)
		sum := func(a, b Z) Z {
			out := make(Z, len(a))
			for i := range out {
				out[i] = a[i] + b[i]
			}
			return out
		}
		pass := func(s S, x, own Z) Z {
			l, e := strait.Pass(s, x, own, 30)
			if e != api.OK {
				t.Fatal("Pass:", e)
			}
			return l
		}
		one := pass(s, x, own)
		samples, e := strait.Arrive(s, x, own, nil, nil, 30)
		for i, z := range samples {
			if z.V != one[i] || z.Lost || e != api.OK {
				t.Fatal("on the grid:", i)
			}
		}
		if at, e := grid.Check(samples); e != api.OK {
			t.Fatal("a sample that may not be:", at)
		}
		if !slices.Equal(sum(one, pass(s, y, also)), pass(s, sum(x, y), sum(own, also))) || !slices.Equal(one, sum(pass(s, x, nil), pass(s, nil, own))) {
			t.Fatal("linear")
		}
		n := r.Intn(9) - 4
		turned, _ := strait.Turned(s, n)
		late := s
		late.Delay += 3
		half, e := strait.Halved(s)
		alone, row := pass(s, x, nil), slices.Clone(x)
		for i := range row {
			row[i] = plane.Turn(row[i], n)
		}
		by, through, behind := pass(s, row, nil), pass(turned, x, nil), pass(late, x, nil)
		for i, z := range alone {
			if by[i] != plane.Turn(z, n) || through[i] != by[i] || i < 27 && behind[i+3] != z || i < 3 && behind[i] != 0 {
				t.Fatal("turned or late:", i)
			}
			if e == api.OK && pass(half, x, nil)[i] != z/2 {
				t.Fatal("halved:", i)
			}
		}
	}
}

func TestP10_8Two(t *testing.T) {
	r := rand.New(rand.NewSource(2))
	joined := 0
	for range 500 {
		a, b := line(r, 1.9), line(r, 1.9)
		for _, s := range []*S{&a, &b} {
			s.Rate = 2
			for i, z := range s.Taps { // coarse ones, so that their products are taps
				s.Taps[i] = complex(math.Trunc(real(z)*8)/8, math.Trunc(imag(z)*8)/8)
			}
		}
		both, e := strait.Join(a, b)
		if e != api.OK {
			continue
		}
		joined++
		x := make(Z, 6)
		for i := range x {
			x[i] = complex(float64(r.Intn(65)-32), float64(r.Intn(65)-32))
		}
		one, _ := strait.Pass(a, x, nil, 60)
		two, e := strait.Pass(b, one, nil, 60)
		if all, f := strait.Pass(both, x, nil, 60); e != api.OK || f != api.OK || !slices.Equal(all, two) {
			t.Fatal("two straits:", a, b, e, f)
		}
	}
	if joined < 50 {
		t.Error("too few joined:", joined)
	}
}

func TestP10_9Torn(t *testing.T) {
	r := rand.New(rand.NewSource(3))
	s := of(1, 0, Z{1})
	for range 300 {
		x := some(r, 20, 100)
		l := make([]api.Burst, r.Intn(6))
		for i := range l {
			l[i] = api.Burst{At: r.Intn(22), N: r.Intn(8), V: complex(float64(r.Intn(2000)), 0), Lost: r.Intn(3) == 0}
		}
		got, _ := strait.Arrive(s, x, nil, nil, l, 20)
		for m := range got {
			want := api.Sample{V: x[m]}
			for _, b := range l {
				if m >= b.At && m < b.At+b.N {
					want = api.Sample{V: b.V}
					if b.Lost || real(b.V) > 1024 {
						want = api.Sample{Lost: true}
					}
				}
			}
			if got[m] != want {
				t.Fatal("torn:", l, m, got[m], want)
			}
		}
	}
}
