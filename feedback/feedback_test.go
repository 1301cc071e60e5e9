package feedback_test

import (
	"math"
	"math/rand"
	"slices"
	"testing"

	"foghorn/api"
	"foghorn/feedback"
	"foghorn/plane"
	"foghorn/points"
	"foghorn/slice"
)

type Z = []complex128

var (
	nan   = math.NaN()
	sizes = []int{4, 16, 32, 64, 128, 256}
)

func row(l ...complex128) []api.Sample {
	out := make([]api.Sample, len(l))
	for i, z := range l {
		out[i].V = z
	}
	return out
}

func values(l []slice.Decision) Z {
	out := make(Z, len(l))
	for i, d := range l {
		out[i] = d.V
	}
	return out
}

func TestP11_1CheckAndEcho(t *testing.T) {
	for _, c := range []struct {
		taps Z
		e    api.Errno
	}{{Z{1}, api.OK}, {Z{0.25i, 1}, api.OK}, {Z{-0.5}, api.OK}, {Z{0.125}, api.ErrFirst}, {Z{0, 1}, api.ErrFirst}, {Z{1 + 1i}, api.ErrFirst}, {nil, api.ErrTaps}, {Z{2}, api.ErrTaps}, {Z{1, 1, 1, 1, 1}, api.ErrTaps}, {make(Z, 65), api.ErrTaps}, {Z{1, complex(nan, 0)}, api.ErrTaps}} {
		if e := feedback.Check(c.taps); e != c.e {
			t.Error("Check:", c.taps, e)
		}
		if l, e := feedback.New(16, c.taps); e != c.e || (l == nil) != (e != api.OK) {
			t.Error("New:", c.taps, e)
		}
		if l, e := feedback.Run(16, c.taps, row(complex(nan, 0))); e == api.OK || c.e != api.OK && e != c.e || l != nil {
			t.Error("Run:", c.taps, e)
		}
		if l, e := feedback.Residue(16, c.taps, row(complex(nan, 0))); e == api.OK || c.e != api.OK && e != c.e || l != nil {
			t.Error("Residue:", c.taps, e)
		}
	}
	if l, e := feedback.Echo(Z{1, 0.5}, Z{1 + 1i, 2}); e != api.OK || !slices.Equal(l, Z{1 + 1i, 2.5 + 0.5i}) {
		t.Error("Echo:", l, e)
	}
	if l, e := feedback.Echo(Z{0.125}, Z{8}); e != api.OK || !slices.Equal(l, Z{1}) {
		t.Error("Echo with any first tap:", l, e)
	}
	for _, c := range []struct {
		taps, l Z
		e       api.Errno
	}{{nil, nil, api.ErrTaps}, {Z{2}, make(Z, api.MaxSamples+1), api.ErrTaps}, {Z{1}, make(Z, api.MaxSamples+1), api.ErrArg}, {Z{1}, Z{0.1}, api.ErrGrid}, {Z{1}, Z{complex(0, 1025)}, api.ErrGrid}} {
		if l, e := feedback.Echo(c.taps, c.l); l != nil || e != c.e {
			t.Error("Echo:", c.taps, e)
		}
	}
}

func TestP11_2Loop(t *testing.T) {
	taps := Z{1, 1}
	l, e := feedback.New(4, taps)
	if e != api.OK {
		t.Fatal("New:", e)
	}
	taps[1] = 0
	if z, e := l.Bare(); z != 0 || e != api.ErrNone {
		t.Error("Bare ahead of a Step:", z, e)
	}
	if d, e := l.Step(api.Sample{V: 1, Lost: true}); d != (slice.Decision{}) || e != api.ErrGrid || l.Broken() {
		t.Error("Step of none:", d, e)
	}
	for i, want := range []slice.Decision{{Label: 3, V: 1 + 1i}, {Label: 2, V: 1 - 1i}, {Label: 0, V: -1 - 1i}} {
		if d, e := l.Step(api.Sample{V: Z{1 + 1i, 2, -2i}[i]}); d != want || e != api.OK {
			t.Error("Step:", i, d, e)
		}
		if z, e := l.Bare(); z != want.V || e != api.OK {
			t.Error("Bare:", i, z, e)
		}
	}
	for _, s := range []api.Sample{{Lost: true}, {V: 1}} {
		if d, e := l.Step(s); d != (slice.Decision{Lost: true}) || e != api.OK || !l.Broken() {
			t.Error("broken:", d, e)
		}
		if z, e := l.Bare(); z != 0 || e != api.ErrNone {
			t.Error("Bare of a broken one:", z, e)
		}
	}
	if _, e := l.Step(api.Sample{V: 0.1}); e != api.ErrGrid {
		t.Error("Step of none, broken:", e)
	}
	if e := l.Reset(); e != api.OK || l.Broken() {
		t.Error("Reset:", e)
	}
	if _, e := l.Bare(); e != api.ErrNone {
		t.Error("Bare behind a Reset:", e)
	}
	if d, e := l.Step(api.Sample{V: 1 + 1i}); d.V != 1+1i || e != api.OK {
		t.Error("Step behind a Reset:", d, e)
	}
	for _, size := range []int{5, 0, -4} {
		if l, e := feedback.New(size, nil); l != nil || e != api.ErrArg {
			t.Error("New:", size, e)
		}
		if _, e := feedback.Run(size, nil, nil); e != api.ErrArg {
			t.Error("Run:", size, e)
		}
		if _, e := feedback.Residue(size, nil, nil); e != api.ErrArg {
			t.Error("Residue:", size, e)
		}
	}
	var none *feedback.Loop
	_, e1 := none.Step(api.Sample{V: 0.1})
	_, e2 := none.Bare()
	if e3 := none.Reset(); e1 != api.ErrNil || e2 != api.ErrNil || e3 != api.ErrNil || none.Broken() {
		t.Error("a nil loop:", e1, e2, e3)
	}
	var made feedback.Loop
	made.Step(api.Sample{V: 1})
	made.Bare()
	made.Reset()
}

func TestP11_3Rows(t *testing.T) {
	lost := row(1+1i, 0, 2)
	lost[1] = api.Sample{Lost: true}
	if l, e := feedback.Run(4, Z{1, 1}, lost); e != api.OK || !slices.Equal(l, []slice.Decision{{Label: 3, V: 1 + 1i}, {Lost: true}, {Lost: true}}) {
		t.Error("Run:", l, e)
	}
	if l, e := feedback.Residue(4, Z{0.5}, row(0.75+0.5i)); e != api.OK || !slices.Equal(l, Z{0.5}) {
		t.Error("Residue:", l, e)
	}
	lost[0].V = 1.5 + 1i
	if l, e := feedback.Residue(4, Z{1, 1}, lost); e != api.OK || !slices.Equal(l, Z{0.5, 0, 0}) {
		t.Error("Residue of lost ones:", l, e)
	}
	if l, e := feedback.Run(4, Z{1}, make([]api.Sample, api.MaxSamples+1)); l != nil || e != api.ErrArg {
		t.Error("Run of a row too long:", e)
	}
	if l, e := feedback.Run(4, Z{1}, nil); len(l) != 0 || e != api.OK {
		t.Error("Run of none:", l, e)
	}
}

// through sends points at random through taps at random, and disturbs them.
func through(r *rand.Rand, size int) (taps, sent, off Z, got []api.Sample) {
	first := []float64{1, 0.5, 0.25}[r.Intn(3)]
	taps = Z{plane.Turn(complex(first, 0), r.Intn(4))}
	n := r.Intn(70)
	for range n {
		if len(taps) < api.MaxTaps {
			part := min(64, 64*3/(2*n))
			taps = append(taps, complex(float64(r.Intn(2*part+1)-part)/64, float64(r.Intn(2*part+1)-part)/64))
		}
	}
	for range 150 {
		z, _ := points.At(size, r.Intn(size))
		sent = append(sent, z)
	}
	l, _ := feedback.Echo(taps, sent)
	edge := int(first*4096) - 1
	for _, z := range l {
		d := complex(float64(r.Intn(2*edge+1)-edge)/4096, float64(r.Intn(2*edge+1)-edge)/4096)
		off = append(off, d)
		got = append(got, api.Sample{V: z + d})
	}
	return taps, sent, off, got
}

func TestP11_4WithinReach(t *testing.T) {
	r := rand.New(rand.NewSource(1))
	for i := range 60 {
		size := sizes[i%6]
		taps, sent, off, got := through(r, size)
		l, e := feedback.Run(size, taps, got)
		if e != api.OK || !slices.Equal(values(l), sent) {
			t.Fatal("within reach:", size, taps, e)
		}
		rest, e := feedback.Residue(size, taps, got)
		for k, z := range rest {
			if e != api.OK || plane.Mul(z, taps[0]) != off[k] {
				t.Fatal("Residue:", size, taps, k, z, off[k])
			}
		}
	}
}

func TestP11_5What(t *testing.T) {
	r := rand.New(rand.NewSource(2))
	for i := range 60 {
		size := sizes[i%6]
		taps, sent, _, got := through(r, size)
		all, _ := feedback.Run(size, taps, got)
		if part, _ := feedback.Run(size, taps, got[:40]); !slices.Equal(part, all[:40]) {
			t.Fatal("a beginning")
		}
		torn := slices.Clone(got)
		at := r.Intn(len(torn))
		torn[at] = api.Sample{Lost: true}
		part, _ := feedback.Run(size, taps, torn)
		if !slices.Equal(part[:at], all[:at]) || len(slice.Lost(part)) != len(part)-at {
			t.Fatal("a lost sample:", at)
		}
		n := r.Intn(4)
		turned, by := slices.Clone(got), slices.Clone(taps)
		for k := range turned {
			turned[k].V = plane.Turn(turned[k].V, n)
		}
		for k := range by {
			by[k] = plane.Turn(by[k], n)
		}
		if same, _ := feedback.Run(size, by, turned); !slices.Equal(same, all) {
			t.Fatal("turned:", n)
		}
		sum := make(Z, len(sent))
		for k := range sum {
			sum[k] = sent[k] + sent[len(sent)-1-k]
		}
		other := slices.Clone(sent)
		slices.Reverse(other)
		a, _ := feedback.Echo(taps, sent)
		b, _ := feedback.Echo(taps, other)
		both, _ := feedback.Echo(taps, sum)
		late, _ := feedback.Echo(taps, append(make(Z, 3), sent...))
		for k := range both {
			if both[k] != a[k]+b[k] || k < 3 && late[k] != 0 {
				t.Fatal("linear:", k)
			}
		}
	}
}
