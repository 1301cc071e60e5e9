package grid_test

import (
	"math"
	"math/big"
	"math/rand"
	"testing"

	"foghorn/api"
	"foghorn/grid"
)

var (
	nan = math.NaN()
	inf = math.Inf(1)
	neg = math.Copysign(0, -1)
)

const least = math.SmallestNonzeroFloat64

func TestP2_1On(t *testing.T) {
	for _, x := range []float64{0, neg, 0.5, 1024, -1024, 1.0 / 4096, 1024 - 1.0/4096} {
		if !grid.On(x) {
			t.Error("On:", x)
		}
	}
	for _, x := range []float64{1.0 / 8192, 1024 + 1.0/4096, 1024.5, -1025, nan, inf, -inf, least, math.MaxFloat64} {
		if grid.On(x) {
			t.Error("On:", x)
		}
	}
}

func TestP2_1Near(t *testing.T) {
	const u = 1.0 / 4096
	for _, c := range [][2]float64{{u / 2, 0}, {1.5 * u, 2 * u}, {-u / 2, 0}, {-1.5 * u, -2 * u}, {2.5 * u, 2 * u}, {0.6 * u, u}, {1024, 1024}, {-1024, -1024}, {neg, 0}, {least, 0}, {-least, 0}} {
		x, ok := grid.Near(c[0])
		if x != c[1] || !ok || math.Signbit(x) != (c[1] < 0) {
			t.Error("Near:", c[0], x, ok)
		}
	}
	for _, x := range []float64{math.Nextafter(1024, 2000), -math.Nextafter(1024, 2000), nan, inf, -inf} {
		if x, ok := grid.Near(x); x != 0 || ok {
			t.Error("Near:", x, ok)
		}
	}
}

func TestP2_1Door(t *testing.T) {
	l, e := grid.Door([]complex128{1 + 2i, complex(nan, 0), complex(0, inf), complex(1, 1025), complex(neg, neg)})
	if e != api.OK || len(l) != 5 || l[0] != (api.Sample{V: 1 + 2i}) {
		t.Error("Door:", l, e)
	}
	for _, s := range l[1:4] {
		if s != (api.Sample{Lost: true}) {
			t.Error("lost:", s)
		}
	}
	if math.Signbit(real(l[4].V)) || math.Signbit(imag(l[4].V)) {
		t.Error("a nought with a sign")
	}
	if l, e := grid.Door(make([]complex128, api.MaxSamples+1)); l != nil || e != api.ErrArg {
		t.Error("too many:", e)
	}
	if l, e := grid.Door(make([]complex128, api.MaxSamples)); len(l) != api.MaxSamples || e != api.OK {
		t.Error("as many as may be:", e)
	}
}

func TestP2_1Check(t *testing.T) {
	good := api.Sample{V: complex(neg, -1024)}
	for _, bad := range []api.Sample{{V: 1, Lost: true}, {V: complex(0, nan), Lost: true}, {V: complex(nan, 0)}, {V: complex(0, 1.0/8192)}} {
		if at, e := grid.Check([]api.Sample{good, {Lost: true}, bad, bad}); at != 2 || e != api.ErrGrid {
			t.Error("Check:", bad, at, e)
		}
	}
	if at, e := grid.Check([]api.Sample{good, {V: complex(neg, neg), Lost: true}}); at != 0 || e != api.OK {
		t.Error("Check:", at, e)
	}
	if at, e := grid.Check(make([]api.Sample, api.MaxSamples)); at != 0 || e != api.OK {
		t.Error("Check of as many as may be:", at, e)
	}
	if at, e := grid.Check(make([]api.Sample, api.MaxSamples+1)); at != 0 || e != api.ErrArg {
		t.Error("Check of too many:", at, e)
	}
}

func TestP2_2Units(t *testing.T) {
	for _, c := range []struct {
		x float64
		n int32
	}{{0.25, 1024}, {-1, -4096}, {1024, 1 << 22}, {-1024, -1 << 22}, {0, 0}} {
		if n, e := grid.Units(c.x); n != c.n || e != api.OK {
			t.Error("Units:", c.x, n, e)
		}
		if x, e := grid.OfUnits(c.n); x != c.x || e != api.OK {
			t.Error("OfUnits:", c.n, x, e)
		}
	}
	for _, x := range []float64{nan, inf, 1025, 1.0 / 8192} {
		if n, e := grid.Units(x); n != 0 || e != api.ErrGrid {
			t.Error("Units:", x, n, e)
		}
	}
	for _, n := range []int32{1<<22 + 1, -1<<22 - 1, math.MinInt32, math.MaxInt32} {
		if x, e := grid.OfUnits(n); x != 0 || e != api.ErrArg {
			t.Error("OfUnits:", n, x, e)
		}
	}
}

func TestP2_2Split(t *testing.T) {
	for _, c := range []struct {
		x     float64
		odd   int64
		power int
	}{{12, 3, 2}, {-0.375, -3, -3}, {least, 1, -1074}, {3 * least, 3, -1074}, {0, 0, 0}, {neg, 0, 0}, {math.MaxFloat64, 1<<53 - 1, 971}, {1, 1, 0}} {
		if odd, power, e := grid.Split(c.x); odd != c.odd || power != c.power || e != api.OK {
			t.Error("Split:", c.x, odd, power, e)
		}
	}
	for _, x := range []float64{nan, inf, -inf} {
		if odd, power, e := grid.Split(x); odd != 0 || power != 0 || e != api.ErrArg {
			t.Error("Split:", x, odd, power, e)
		}
	}
}

func TestP2_2Join(t *testing.T) {
	for _, c := range []struct {
		n     int64
		power int
		x     float64
	}{{3, 2, 12}, {1, 1023, math.Ldexp(1, 1023)}, {1, -1074, least}, {3, -1074, 3 * least}, {math.MinInt64, 0, -math.Ldexp(1, 63)}, {math.MinInt64, -1137, -least}, {1<<53 - 1, 971, math.MaxFloat64}, {6, -1075, 3 * least}, {0, math.MaxInt, 0}, {0, math.MinInt, 0}} {
		if x, ok := grid.Join(c.n, c.power); x != c.x || !ok || math.Signbit(x) != (c.n < 0) {
			t.Error("Join:", c.n, c.power, x, ok)
		}
	}
	for _, c := range []struct {
		n     int64
		power int
	}{{3, -1075}, {1, 1024}, {1<<53 + 1, 0}, {math.MaxInt64, 0}, {2, 1023}, {1, math.MaxInt}, {-1, math.MinInt}, {math.MinInt64, math.MaxInt}, {math.MinInt64, -1138}} {
		if x, ok := grid.Join(c.n, c.power); x != 0 || ok {
			t.Error("Join:", c.n, c.power, x, ok)
		}
	}
}

func TestP2_2Scale(t *testing.T) {
	if x, ok := grid.Scale(3, -1074); x != 3*least || !ok {
		t.Error("Scale:", x, ok)
	}
	if x, ok := grid.Scale(least, 1074+1023); x != math.Ldexp(1, 1023) || !ok {
		t.Error("Scale from the least to the greatest:", x, ok)
	}
	for _, power := range []int{math.MinInt, -5, 0, math.MaxInt} {
		if x, ok := grid.Scale(neg, power); x != 0 || !ok {
			t.Error("Scale of nought:", power, x, ok)
		}
	}
	for _, c := range []struct {
		x     float64
		power int
	}{{3, -1075}, {nan, 0}, {inf, -1}, {-inf, 0}, {1, 1024}, {1, math.MaxInt}, {1, math.MinInt}, {least, math.MaxInt}} {
		if x, ok := grid.Scale(c.x, c.power); x != 0 || ok {
			t.Error("Scale:", c.x, c.power, x, ok)
		}
	}
}

func TestP2_3Forms(t *testing.T) {
	for _, c := range []struct {
		l    []float64
		want grid.Form
	}{{[]float64{0.5, -3}, grid.Form{F: 1, M: 2}}, {[]float64{4}, grid.Form{M: 2}}, {nil, grid.Form{}}, {[]float64{0, neg}, grid.Form{}}, {[]float64{5}, grid.Form{M: 3}}, {[]float64{-0.25}, grid.Form{F: 2}}, {[]float64{least, math.MaxFloat64}, grid.Form{F: 1074, M: 1024}}, {[]float64{1}, grid.Form{}}} {
		if got, e := grid.Of(c.l); got != c.want || e != api.OK {
			t.Error("Of:", c.l, got, e)
		}
	}
	for _, x := range []float64{nan, inf, -inf} {
		if got, e := grid.Of([]float64{3, x}); got != (grid.Form{}) || e != api.ErrArg {
			t.Error("Of:", x, got, e)
		}
	}
	if _, e := grid.Of(make([]float64, api.MaxSamples)); e != api.OK {
		t.Error("Of as many as may be:", e)
	}
	if _, e := grid.Of(make([]float64, api.MaxSamples+1)); e != api.ErrArg {
		t.Error("Of too many:", e)
	}
	p := grid.Form{F: 12, M: 10}.Times(grid.Form{F: 6})
	if p != (grid.Form{F: 18, M: 10}) {
		t.Error("Times:", p)
	}
	if s, e := p.Sum(64); s != (grid.Form{F: 18, M: 16}) || e != api.OK || !s.Exact() {
		t.Error("Sum:", s, e)
	}
	if s, e := p.Sum(65); s.M != 17 || e != api.OK {
		t.Error("Sum of 65:", s, e)
	}
	if s, e := p.Sum(1); s != p || e != api.OK {
		t.Error("Sum of 1:", s, e)
	}
	if s, e := p.Sum(1 << 20); s.M != 30 || e != api.OK {
		t.Error("Sum of the most:", s, e)
	}
	for _, n := range []int{0, -1, 1<<20 + 1, math.MinInt} {
		if s, e := p.Sum(n); s != (grid.Form{}) || e != api.ErrArg {
			t.Error("Sum:", n, s, e)
		}
	}
	if s := (grid.Form{F: 3, M: 1}).Plus(grid.Form{F: 2, M: 5}); s != (grid.Form{F: 3, M: 6}) {
		t.Error("Plus:", s)
	}
}

func TestP2_3Edges(t *testing.T) {
	low, high := grid.Form{F: -3, M: math.MinInt}, grid.Form{F: math.MaxInt, M: math.MaxInt}
	if s := low.Times(low); s != (grid.Form{}) {
		t.Error("what is negative counts as 0:", s)
	}
	if s := low.Plus(low); s != (grid.Form{M: 1}) {
		t.Error("what is negative counts as 0:", s)
	}
	if s := high.Times(high); s != high {
		t.Error("Times stops:", s)
	}
	if s := high.Plus(low); s != high {
		t.Error("Plus stops:", s)
	}
	if s, _ := high.Sum(2); s != high {
		t.Error("Sum stops:", s)
	}
	if high.Exact() || !low.Exact() || !(grid.Form{F: 53, M: -9}).Exact() || (grid.Form{F: 30, M: 24}).Exact() {
		t.Error("Exact")
	}
	if !(grid.Form{M: 2}).Has(-4) || (grid.Form{M: 2}).Has(5) || !low.Has(1) || low.Has(0.5) || low.Has(2) || high.Has(nan) || high.Has(inf) || !high.Has(least) || !low.Has(0) {
		t.Error("Has")
	}
}

func TestP2_4Door(t *testing.T) {
	r := rand.New(rand.NewSource(1))
	before, last := math.Inf(-1), 0.0
	for range 2000 {
		x := r.Float64()*2048 - 1024
		y, ok := grid.Near(x)
		again, _ := grid.Near(y)
		if !ok || !grid.On(y) || math.Abs(x-y) > 1.0/8192 || again != y {
			t.Fatal("Near:", x, y)
		}
		if before <= x && last > y || before >= x && before > -2000 && last < y {
			t.Fatal("order:", before, x)
		}
		before, last = x, y
		off := (r.Float64() - 0.5) / 4096
		if near, _ := grid.Near(y + off); math.Abs(off) < 1.0/8192 && math.Abs(y) < 1000 && near != y {
			t.Fatal("disturbed:", y, off)
		}
	}
}

func TestP2_5Exact(t *testing.T) {
	r := rand.New(rand.NewSource(2))
	some := func(f grid.Form) float64 {
		x, _ := grid.Join(r.Int63n(1<<min(f.F+f.M, 52)+1)*int64(1-2*r.Intn(2)), -f.F)
		return x
	}
	for range 2000 {
		a, b := grid.Form{F: r.Intn(20), M: r.Intn(20)}, grid.Form{F: r.Intn(20), M: r.Intn(20)}
		x, y := some(a), some(b)
		product := new(big.Float).SetPrec(200).Mul(big.NewFloat(x), big.NewFloat(y))
		if p := a.Times(b); p.Exact() && (product.Cmp(big.NewFloat(x*y)) != 0 || !p.Has(x*y)) {
			t.Fatal("product:", x, y)
		}
		sum := new(big.Float).SetPrec(200).Add(big.NewFloat(x), big.NewFloat(y))
		if s := a.Plus(b); s.Exact() && (sum.Cmp(big.NewFloat(x+y)) != 0 || !s.Has(x+y)) {
			t.Fatal("sum:", x, y)
		}
		x = math.Float64frombits(r.Uint64())
		odd, power, e := grid.Split(x)
		if e != api.OK {
			continue
		}
		if back, ok := grid.Join(odd, power); back != x || !ok || odd%2 == 0 {
			t.Fatal("Join of Split:", x, odd, power)
		}
		by := r.Intn(4000) - 2000
		if there, ok := grid.Scale(x, by); ok {
			if back, ok := grid.Scale(there, -by); back != x || !ok {
				t.Fatal("Scale there and back:", x, by)
			}
		}
	}
	a := grid.Form{F: 12, M: 10}
	n := 1 << 20
	if s, _ := a.Sum(n); !s.Exact() {
		t.Fatal("a sum of 2^20")
	}
	forth, back, l := 0.0, 0.0, make([]float64, 5000)
	for i := range l {
		l[i] = some(a)
		forth += l[i]
	}
	for i := range l {
		back += l[len(l)-1-i]
	}
	if forth != back {
		t.Error("the order of a sum:", forth, back)
	}
}
