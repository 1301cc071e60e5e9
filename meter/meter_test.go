package meter_test

import (
	"math"
	"math/rand"
	"slices"
	"testing"

	"foghorn/api"
	"foghorn/meter"
	"foghorn/plane"
	"foghorn/points"
)

type Z = []complex128

var (
	nan  = math.NaN()
	lost = api.Sample{Lost: true}
	long = make([]bool, api.MaxBits+1)
)

func bitsOf(s string) []bool {
	l := make([]bool, len(s))
	for i := range s {
		l[i] = s[i] == '1'
	}
	return l
}

func row(l ...complex128) []api.Sample {
	out := make([]api.Sample, len(l))
	for i, z := range l {
		out[i].V = z
	}
	return out
}

func TestP30_1Errors(t *testing.T) {
	for _, c := range []struct {
		a, b         string
		wrong, first int
		e            api.Errno
	}{{"0110", "0011", 2, 1, api.OK}, {"1", "1", 0, 0, api.OK}, {"", "", 0, 0, api.OK}, {"1", "", 0, 0, api.ErrArg}, {"", "1", 0, 0, api.ErrArg}} {
		if wrong, first, e := meter.Errors(bitsOf(c.a), bitsOf(c.b)); wrong != c.wrong || first != c.first || e != c.e {
			t.Error("Errors:", c, wrong, first, e)
		}
	}
	if wrong, first, e := meter.Errors(long, long); wrong != 0 || first != 0 || e != api.ErrArg {
		t.Error("Errors of too many:", e)
	}
	a, b := bitsOf("00000000"), bitsOf("10010011")
	for gap, want := range map[int][]meter.Run{0: {{0, 1, 1}, {3, 1, 1}, {6, 2, 2}}, 1: {{0, 1, 1}, {3, 1, 1}, {6, 2, 2}}, 2: {{0, 8, 4}}, math.MaxInt: {{0, 8, 4}}} {
		if l, e := meter.Runs(a, b, gap); e != api.OK || !slices.Equal(l, want) {
			t.Error("Runs:", gap, l, e)
		}
	}
	if l, e := meter.Runs(a, a, 0); len(l) != 0 || e != api.OK {
		t.Error("no run:", l, e)
	}
	for _, c := range []struct {
		a, b []bool
		gap  int
	}{{a, b, -1}, {a, b[1:], 0}, {long, long, 0}} {
		if l, e := meter.Runs(c.a, c.b, c.gap); l != nil || e != api.ErrArg {
			t.Error("Runs:", c.gap, l, e)
		}
	}
}

func TestP30_2Nearest(t *testing.T) {
	for _, c := range []struct {
		size       int
		z          complex128
		label      int
		near, next float64
		e          api.Errno
	}{
		{4, 1 + 1i, 3, 0, 4, api.OK}, {4, 0, 0, 2, 2, api.OK}, {16, 100, 9, 9410, 9410, api.OK}, {4, 0.5, 2, 1.25, 1.25, api.OK},
		{5, 0.001, 0, 0, 0, api.ErrArg}, {4, 0.001, 0, 0, 0, api.ErrGrid}, {4, complex(0, nan), 0, 0, 0, api.ErrGrid}, {4, 1025, 0, 0, 0, api.ErrGrid},
	} {
		if label, near, next, e := meter.Nearest(c.size, c.z); label != c.label || near != c.near || next != c.next || e != c.e {
			t.Error("Nearest:", c, label, near, next, e)
		}
	}
	for _, c := range []struct {
		size int
		l    []api.Sample
		open float64
		at   int
		e    api.Errno
	}{{4, []api.Sample{{V: 1 + 1i}, {V: 0.5 - 1i}, lost}, 2, 1, api.OK}, {4, []api.Sample{lost, {V: 1 + 1i}, {V: 1 - 1i}}, 4, 1, api.OK}, {4, nil, 0, 0, api.ErrNone}, {4, []api.Sample{lost}, 0, 0, api.ErrNone}, {3, nil, 0, 0, api.ErrArg}, {4, row(0.001), 0, 0, api.ErrGrid}, {4, make([]api.Sample, api.MaxSamples+1), 0, 0, api.ErrArg}} {
		if open, at, e := meter.Open(c.size, c.l); open != c.open || at != c.at || e != c.e {
			t.Error("Open:", c.size, len(c.l), open, at, e)
		}
	}
}

func TestP30_3Off(t *testing.T) {
	for _, c := range []struct {
		l            []api.Sample
		sent         Z
		norms, worst float64
		at           int
		e            api.Errno
	}{
		{row(1, 2i), Z{1, 1}, 5, 2, 1, api.OK}, {[]api.Sample{lost, {V: 1}, {V: -1}}, Z{9, 0, 0}, 2, 1, 1, api.OK}, {row(3), Z{3}, 0, 0, 0, api.OK},
		{[]api.Sample{lost}, Z{1}, 0, 0, 0, api.ErrNone}, {nil, nil, 0, 0, 0, api.ErrNone}, {row(1), nil, 0, 0, 0, api.ErrArg}, {make([]api.Sample, 65), make(Z, 65), 0, 0, 0, api.ErrArg}, {row(0.001), Z{0}, 0, 0, 0, api.ErrGrid}, {row(1), Z{0.001}, 0, 0, 0, api.ErrGrid}, {[]api.Sample{lost}, Z{complex(nan, 0)}, 0, 0, 0, api.ErrGrid}, {row(1024), Z{-1024}, 1 << 22, 2048, 0, api.OK},
	} {
		if norms, worst, at, e := meter.Off(c.l, c.sent); norms != c.norms || worst != c.worst || at != c.at || e != c.e {
			t.Error("Off:", len(c.l), norms, worst, at, e)
		}
	}
	for _, c := range []struct {
		l     []api.Sample
		norms float64
		n     int
		e     api.Errno
	}{{[]api.Sample{{V: 3}, lost, {V: 4i}}, 25, 2, api.OK}, {nil, 0, 0, api.OK}, {make([]api.Sample, 64), 0, 64, api.OK}, {make([]api.Sample, 65), 0, 0, api.ErrArg}, {row(0.001), 0, 0, api.ErrGrid}} {
		if norms, n, e := meter.Power(c.l); norms != c.norms || n != c.n || e != c.e {
			t.Error("Power:", len(c.l), norms, n, e)
		}
	}
}

func TestP30_4Meter(t *testing.T) {
	m := meter.New()
	if ok, e := m.Within(9); !ok || e != api.OK {
		t.Error("Within of nothing:", ok, e)
	}
	if e := m.Count(bitsOf("11"), bitsOf("10")); e != api.OK {
		t.Error("Count:", e)
	}
	for one, want := range map[int]bool{1: true, 2: true, 3: false, math.MaxInt: false} {
		if ok, e := m.Within(one); ok != want || e != api.OK {
			t.Error("Within:", one, ok, e)
		}
	}
	m.Count(bitsOf("111"), bitsOf("111"))
	m.Count(bitsOf("111"), bitsOf("000"))
	if e := m.Count(bitsOf("1"), nil); e != api.ErrArg {
		t.Error("Count:", e)
	}
	if e := m.Count(long, long); e != api.ErrArg {
		t.Error("Count of too many:", e)
	}
	if n, e := m.Told(); n != (meter.Tally{Rows: 3, Bad: 2, Bits: 8, Wrong: 4}) || e != api.OK {
		t.Error("Told:", n, e)
	}
	if ok, e := m.Within(math.MaxInt); ok || e != api.OK {
		t.Error("Within:", ok, e)
	}
	if ok, e := m.Within(0); ok || e != api.ErrArg {
		t.Error("Within:", ok, e)
	}
	var none *meter.Meter
	n, e1 := none.Told()
	_, e2 := none.Within(0)
	if e3 := none.Count(nil, bitsOf("1")); n != (meter.Tally{}) || e1 != api.ErrNil || e2 != api.ErrNil || e3 != api.ErrNil {
		t.Error("a nil meter:", e1, e2, e3)
	}
}

func TestP30_5Runs(t *testing.T) {
	r := rand.New(rand.NewSource(1))
	for range 300 {
		a, b := make([]bool, r.Intn(60)), []bool(nil)
		for range a {
			b = append(b, r.Intn(4) == 0)
		}
		gap := r.Intn(5)
		wrong, first, _ := meter.Errors(a, b)
		again, same, _ := meter.Errors(b, a)
		l, _ := meter.Runs(a, b, gap)
		wider, _ := meter.Runs(a, b, gap+1)
		sum, end := 0, -1000
		for _, run := range l {
			if run.At-end <= gap {
				t.Fatal("too near:", l, gap)
			}
			sum, end = sum+run.Wrong, run.At+run.Length
		}
		if sum != wrong || again != wrong || same != first || len(wider) > len(l) || len(l) > 0 && l[0].At != first {
			t.Fatal("Runs:", l, wrong, first)
		}
	}
}

func TestP30_6Margins(t *testing.T) {
	r := rand.New(rand.NewSource(2))
	for i := range 200 {
		size := points.Sizes()[i%6]
		l, sent, turned, off := make([]api.Sample, 30), make(Z, 30), make([]api.Sample, 30), make(Z, 30)
		worst := 0.0
		for k := range l {
			label := r.Intn(size)
			z, _ := points.At(size, label)
			if got, near, next, e := meter.Nearest(size, z); got != label || near != 0 || next < 4 || e != api.OK {
				t.Fatal("Nearest of a point:", size, z, got, near, next)
			}
			d := complex(float64(r.Intn(8191)-4095)/4096, float64(r.Intn(8191)-4095)/4096)
			worst = max(worst, math.Abs(real(d)), math.Abs(imag(d)))
			l[k].V, sent[k] = z+d, z
			turned[k].V, off[k] = plane.Turn(z+d, i), plane.Turn(z, i)
			if got, _, _, _ := meter.Nearest(size, z+d); got != label {
				t.Fatal("Nearest:", size, z, d, got)
			}
		}
		open, _, _ := meter.Open(size, l)
		norms, most, _, _ := meter.Off(l, sent)
		same, other, _, _ := meter.Off(turned, off)
		power, _, _ := meter.Power(l)
		again, _, _ := meter.Power(turned)
		if !(open > 0) || most != worst || same != norms || other != most || power != again {
			t.Fatal("margins:", size, open, most, worst)
		}
	}
}
