package train_test

import (
	"math"
	"math/rand"
	"slices"
	"testing"

	"foghorn/api"
	"foghorn/plane"
	"foghorn/strait"
	"foghorn/train"
)

type (
	P = train.Plan
	Z = []complex128
)

var (
	nan  = math.NaN()
	long = make([]api.Sample, api.MaxSamples+1)
)

func row(l ...complex128) []api.Sample {
	out := make([]api.Sample, len(l))
	for i, z := range l {
		out[i].V = z
	}
	return out
}

func TestP14_1Pair(t *testing.T) {
	a, b, e := train.Pair(0)
	if e != api.OK || !slices.Equal(a, []int8{1}) || !slices.Equal(b, []int8{1}) {
		t.Error("Pair(0):", a, b, e)
	}
	a, b, e = train.Pair(2)
	if e != api.OK || !slices.Equal(a, []int8{1, 1, 1, -1}) || !slices.Equal(b, []int8{1, 1, -1, 1}) {
		t.Error("Pair(2):", a, b, e)
	}
	for _, order := range []int{-1, 9, math.MinInt, math.MaxInt} {
		if a, b, e := train.Pair(order); a != nil || b != nil || e != api.ErrArg {
			t.Error("Pair:", order, e)
		}
	}
	if l, e := train.Auto([]int8{1, 1, 1, -1}); e != api.OK || !slices.Equal(l, []int{4, 1, 0, -1}) {
		t.Error("Auto:", l, e)
	}
	if l, e := train.Auto([]int8{-128, 127}); e != api.OK || !slices.Equal(l, []int{16384 + 16129, -16256}) {
		t.Error("Auto of any numbers:", l, e)
	}
	if l, e := train.Auto(nil); len(l) != 0 || e != api.OK {
		t.Error("Auto of none:", l, e)
	}
	if l, e := train.Auto(make([]int8, train.MaxRow+1)); l != nil || e != api.ErrArg {
		t.Error("Auto of too many:", e)
	}
}

func TestP14_1Against(t *testing.T) {
	l := row(1, 2, 3)
	for _, c := range []struct {
		signs []int8
		want  complex128
	}{{[]int8{1, -1}, -2}, {[]int8{1, 1, 1}, 4}, {nil, 0}} {
		if z, e := train.Against(l, 0, 2, c.signs); z != c.want || e != api.OK {
			t.Error("Against:", c, z, e)
		}
	}
	if z, e := train.Against(l, math.MaxInt, 8, []int8{1, 1}); z != 0 || e != api.OK {
		t.Error("Against past the end:", z, e)
	}
	torn := append(row(1, 2), api.Sample{Lost: true})
	if z, e := train.Against(torn, 0, 2, []int8{1, 1}); z != 0 || e != api.ErrLost {
		t.Error("Against a lost one:", z, e)
	}
	if z, e := train.Against(torn, 1, 2, []int8{1, 1}); z != 2 || e != api.OK {
		t.Error("Against beside a lost one:", z, e)
	}
	for _, c := range []struct {
		l        []api.Sample
		at, rate int
		signs    []int8
		e        api.Errno
	}{{long, 0, 1, nil, api.ErrArg}, {l, -1, 1, nil, api.ErrArg}, {l, 0, 0, nil, api.ErrArg}, {l, 0, 9, nil, api.ErrArg}, {l, 0, 1, []int8{1, 0}, api.ErrArg}, {l, 0, 1, make([]int8, train.MaxRow+1), api.ErrArg}, {row(1, 0.1), 0, 1, []int8{2}, api.ErrArg}, {row(1, 0.1), 0, 1, nil, api.ErrGrid}, {append(torn, row(0.1)...), 2, 1, []int8{1}, api.ErrGrid}} {
		if z, e := train.Against(c.l, c.at, c.rate, c.signs); z != 0 || e != c.e {
			t.Error("Against:", c.at, c.rate, z, e)
		}
	}
}

func TestP14_2Plans(t *testing.T) {
	if l, e := (P{1, 1, 1}).Laid(); e != api.OK || !slices.Equal(l, Z{128, 128, 0, 128, -128, 0}) {
		t.Error("Laid:", l, e)
	}
	if l, e := (P{1, 2, 0}).Laid(); e != api.OK || !slices.Equal(l, Z{128, 0, 128, 0, 128, 0, -128, 0}) {
		t.Error("Laid at the rate 2:", l, e)
	}
	if n, e := (P{8, 8, 4096}).Length(); n != 2*(2048+4096) || e != api.OK {
		t.Error("Length:", n, e)
	}
	for _, p := range []P{{0, 1, 0}, {9, 1, 0}, {1, 0, 0}, {1, 9, 0}, {1, 1, -1}, {1, 1, 4097}, {math.MinInt, math.MaxInt, math.MinInt}} {
		if n, e := p.Length(); n != 0 || e != api.ErrArg {
			t.Error("Length:", p, n, e)
		}
		if l, e := p.Laid(); l != nil || e != api.ErrArg {
			t.Error("Laid:", p, e)
		}
		if l, e := p.Raw(row(0.1), 0, 1); l != nil || e != api.ErrArg {
			t.Error("Raw:", p, e)
		}
		if l, e := p.Taps(row(0.1), 0, 1); l != nil || e != api.ErrArg {
			t.Error("Taps:", p, e)
		}
	}
	for _, c := range [][2]float64{{1.0 / 128, 0}, {3.0 / 128, 1.0 / 32}, {-3.0 / 128, -1.0 / 32}, {0.3, 19.0 / 64}, {1 << 20, 1 << 20}, {0, 0}} {
		if x, e := train.Step(c[0]); x != c[1] || e != api.OK {
			t.Error("Step:", c, x, e)
		}
	}
	for _, x := range []float64{nan, math.Inf(1), math.Inf(-1), 1<<20 + 1, -math.MaxFloat64} {
		if y, e := train.Step(x); y != 0 || e != api.ErrArg {
			t.Error("Step:", x, y, e)
		}
	}
}

func TestP14_2Taps(t *testing.T) {
	p := P{1, 1, 1}
	l := row(128, 128, 0, 128, -128, 0)
	if taps, e := p.Taps(l, 0, 2); e != api.OK || !slices.Equal(taps, Z{1, 0}) {
		t.Error("Taps:", taps, e)
	}
	if taps, e := p.Taps(row(64, 64, 0, 64, -64, 0), 0, 1); e != api.OK || !slices.Equal(taps, Z{0.5}) {
		t.Error("Taps of a half:", taps, e)
	}
	if raw, e := p.Raw(row(1, 0, 0, 0, 0), 0, 1); e != api.OK || raw[0] != 1.0/512 {
		t.Error("Raw:", raw, e)
	}
	if raw, e := p.Raw(l, math.MaxInt, 64); e != api.OK || !slices.Equal(raw, make(Z, 64)) {
		t.Error("Raw past the end:", raw, e)
	}
	torn := slices.Clone(l)
	torn[1] = api.Sample{Lost: true}
	if taps, e := p.Taps(torn, 0, 1); taps != nil || e != api.ErrLost {
		t.Error("Taps of a lost one:", taps, e)
	}
	torn[1], torn[2] = l[1], api.Sample{Lost: true}
	if taps, e := p.Taps(torn, 0, 1); e != api.OK || taps[0] != 1 {
		t.Error("Taps beside a lost one:", taps, e)
	}
	if taps, e := p.Taps(torn, 0, 2); taps != nil || e != api.ErrLost {
		t.Error("Taps up to a lost one:", taps, e)
	}
	if taps, e := p.Taps(row(256, 256, 0, 256, -256, 0), 0, 1); taps != nil || e != api.ErrTaps {
		t.Error("no taps:", taps, e)
	}
	if raw, e := p.Raw(row(256, 256, 0, 256, -256, 0), 0, 1); e != api.OK || raw[0] != 2 {
		t.Error("Raw of no taps:", raw, e)
	}
	for _, c := range []struct {
		l     []api.Sample
		at, n int
		e     api.Errno
	}{{long, 0, 1, api.ErrArg}, {l, -1, 1, api.ErrArg}, {l, 0, 0, api.ErrArg}, {l, 0, 65, api.ErrArg}, {row(0.1), 0, 0, api.ErrArg}, {row(0, 0, 0.1), 9, 1, api.ErrGrid}} {
		if raw, e := p.Raw(c.l, c.at, c.n); raw != nil || e != c.e {
			t.Error("Raw:", c.at, c.n, e)
		}
		if taps, e := p.Taps(c.l, c.at, c.n); taps != nil || e != c.e {
			t.Error("Taps:", c.at, c.n, e)
		}
	}
}

func TestP14_3MakeUp(t *testing.T) {
	var before []int8
	for order := range train.MaxOrder + 1 {
		a, b, _ := train.Pair(order)
		if len(a) != 1<<order || len(b) != len(a) || !slices.Equal(a[:len(before)], before) {
			t.Fatal("a pair:", order)
		}
		x, _ := train.Auto(a)
		y, _ := train.Auto(b)
		for s := range x {
			if want := 2 * len(a); s == 0 && x[s]+y[s] != want || s > 0 && x[s]+y[s] != 0 {
				t.Fatal("they don't make up:", order, s)
			}
			if a[s]*a[s] != 1 || b[s]*b[s] != 1 {
				t.Fatal("no sign:", order, s)
			}
		}
		before = slices.Clone(a)
		_ = append(a, 9)
		if b[0] != 1 {
			t.Fatal("the rows share memory:", order)
		}
	}
}

func TestP14_4And5Taught(t *testing.T) {
	r := rand.New(rand.NewSource(1))
	for range 100 {
		n := 1 + r.Intn(6)
		p := P{1 + r.Intn(8), 1 + r.Intn(8), 0}
		extra := 3 * r.Intn(2)
		p.Guard = (n - 1 + extra) * p.Rate
		taps := make(Z, n)
		for i := range taps {
			taps[i] = complex(float64(r.Intn(41)-20)/64, float64(r.Intn(41)-20)/64)
		}
		sent, _ := p.Laid()
		at, all := r.Intn(20), 20+len(sent)+p.Guard+9
		s := api.Strait{Rate: p.Rate, Delay: at, Taps: taps}
		clean, _ := strait.Arrive(s, sent, nil, nil, nil, all)
		raw, e := p.Raw(clean, at, n)
		if e != api.OK || !slices.Equal(raw, taps) {
			t.Fatal("Raw:", p, e)
		}
		disturb := make(Z, all)
		for i := range disturb {
			disturb[i] = complex(float64(r.Intn(8191)-4095)/4096, float64(r.Intn(2)*8190-4095)/4096)
		}
		dirty, _ := strait.Arrive(s, sent, nil, disturb, nil, all)
		if got, e := p.Taps(dirty, at, n); e != api.OK || !slices.Equal(got, taps) {
			t.Fatal("Taps:", p, got, e)
		}
		k, d := r.Intn(4), r.Intn(extra+1)
		turned, sum, late := slices.Clone(clean), slices.Clone(clean), append(make([]api.Sample, d*p.Rate), clean...)
		for i, s := range clean {
			turned[i].V = plane.Turn(s.V, k)
			sum[i].V += dirty[i].V
		}
		one, _ := p.Raw(turned, at, n)
		two, _ := p.Raw(sum, at, n)
		three, _ := p.Raw(dirty, at, n)
		later, _ := p.Raw(late, at, n+d)
		for j := range raw {
			if one[j] != plane.Turn(raw[j], k) || two[j] != raw[j]+three[j] || later[j+d] != raw[j] {
				t.Fatal("linear:", p, j)
			}
		}
	}
}
