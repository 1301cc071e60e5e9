package field_test

import (
	"math"
	"math/rand"
	"slices"
	"testing"

	"foghorn/api"
	"foghorn/field"
)

type B = []uint8

// slow is the product of polynomials over bits, modulo 0x11D, by long division.
func slow(a, b uint8) uint8 {
	wide := 0
	for i := range 8 {
		if b>>i&1 != 0 {
			wide ^= int(a) << i
		}
	}
	for i := 14; i >= 8; i-- {
		if wide>>i&1 != 0 {
			wide ^= 0x11D << (i - 8)
		}
	}
	return uint8(wide)
}

func some(r *rand.Rand, n int) B {
	p := make(B, n)
	for i := range p {
		p[i] = uint8(r.Intn(256))
	}
	if n > 0 && p[n-1] == 0 {
		p[n-1] = 1
	}
	return p
}

func TestP18_1Numbers(t *testing.T) {
	for a := range 256 {
		for b := range 256 {
			x, y := uint8(a), uint8(b)
			if field.Plus(x, y) != x^y || field.Times(x, y) != slow(x, y) {
				t.Fatal("sum, product:", x, y)
			}
			q, e := field.Over(x, y)
			if y == 0 && (q != 0 || e != api.ErrNone) || y != 0 && (slow(q, y) != x || e != api.OK) {
				t.Fatal("Over:", x, y, q, e)
			}
		}
		if n, e := field.Log(uint8(a)); a == 0 && (n != 0 || e != api.ErrNone) || a > 0 && (field.Exp(n) != uint8(a) || n < 0 || n > 254 || e != api.OK) {
			t.Fatal("Log:", a, n, e)
		}
	}
	for _, c := range []struct {
		a    uint8
		n    int
		want uint8
		e    api.Errno
	}{{2, 8, 29, api.OK}, {2, -1, 142, api.OK}, {0, 0, 1, api.OK}, {0, -1, 0, api.ErrNone}, {0, 5, 0, api.OK}, {0, math.MinInt, 0, api.ErrNone}, {7, 2, 21, api.OK}, {9, 255, 1, api.OK}, {1, math.MaxInt, 1, api.OK}, {9, 0, 1, api.OK}} {
		if x, e := field.Power(c.a, c.n); x != c.want || e != c.e {
			t.Error("Power:", c, x, e)
		}
	}
	if field.Exp(255) != 1 || field.Exp(8) != 29 || field.Exp(-1) != 142 || field.Exp(math.MinInt) != field.Exp(math.MinInt%255) {
		t.Error("Exp")
	}
	if n, _ := field.Log(29); n != 8 {
		t.Error("Log:", n)
	}
}

func TestP18_2Polynomials(t *testing.T) {
	same := func(what string, got B, e api.Errno, want ...uint8) {
		if e != api.OK || !slices.Equal(got, want) {
			t.Error(what, got, e)
		}
	}
	p, e := field.Sum(B{1, 2, 3}, B{0, 2, 3})
	same("Sum:", p, e, 1)
	p, e = field.Sum(B{1, 0, 0}, nil)
	same("Sum with noughts:", p, e, 1)
	p, e = field.Product(B{1, 1}, B{1, 1})
	same("Product:", p, e, 1, 0, 1)
	p, e = field.Product(nil, B{1})
	same("Product of none:", p, e)
	p, e = field.Product(make(B, 512), make(B, 512))
	same("Product of noughts:", p, e)
	q, rest, e := field.Divide(B{1, 0, 1}, B{1, 1})
	same("Divide:", q, e, 1, 1)
	same("the rest:", rest, e)
	q, rest, e = field.Divide(B{5}, B{1, 1, 0})
	same("Divide by a greater one:", q, e)
	same("the rest:", rest, e, 5)
	p, e = field.Slope(B{9, 1, 2, 3})
	same("Slope:", p, e, 1, 0, 3)
	p, e = field.Slope(B{9, 0, 2})
	same("Slope of even ones:", p, e)
	p, e = field.Roots(B{2, 3, 1})
	same("Roots:", p, e, 1, 2)
	p, _ = field.Of(B{255, 254, 0})
	p, e = field.Roots(p)
	same("Roots at the ends:", p, e, 0, 254, 255)
	p, e = field.Roots(B{5})
	same("Roots of a number:", p, e)
	p, e = field.Gcd(B{2, 3, 1}, B{1, 1})
	same("Gcd:", p, e, 1, 1)
	p, e = field.Gcd(B{0, 0}, nil)
	same("Gcd of noughts:", p, e)
	p, e = field.Gcd(nil, B{4, 2})
	same("Gcd with nought:", p, e, 2, 1)
	if x, e := field.At(B{1, 2, 3}, 1); x != 0 || e != api.OK {
		t.Error("At:", x, e)
	}
	if x, e := field.At(B{7, 2}, 0); x != 7 || e != api.OK {
		t.Error("At 0:", x, e)
	}
	if x, e := field.At(nil, 3); x != 0 || e != api.OK {
		t.Error("At of nought:", x, e)
	}
}

func TestP18_2Refused(t *testing.T) {
	long, whole := make(B, 513), make(B, 512)
	for _, f := range []func(p, q B) (B, api.Errno){field.Sum, field.Product, field.Gcd, func(p, q B) (B, api.Errno) { a, b, e := field.Divide(p, q); return append(a, b...), e }} {
		for _, c := range [][2]B{{long, nil}, {nil, long}} {
			if p, e := f(c[0], c[1]); len(p) != 0 || e != api.ErrArg {
				t.Error("too long:", e)
			}
		}
	}
	for _, f := range []func(p B) (B, api.Errno){field.Slope, field.Roots, func(p B) (B, api.Errno) { x, e := field.At(p, 1); return make(B, x), e }} {
		if p, e := f(long); len(p) != 0 || e != api.ErrArg {
			t.Error("too long:", e)
		}
	}
	if p, e := field.Roots(whole); p != nil || e != api.ErrNone {
		t.Error("Roots of nought:", e)
	}
	if a, b, e := field.Divide(B{1}, B{0, 0}); a != nil || b != nil || e != api.ErrNone {
		t.Error("Divide by nought:", e)
	}
	one := append(make(B, 300), 1)
	if p, e := field.Product(one, append(make(B, 212), 1)); p != nil || e != api.ErrArg {
		t.Error("Product too long:", e)
	}
	if p, e := field.Product(one, append(make(B, 211), 1, 0, 0)); len(p) != 512 || e != api.OK {
		t.Error("Product as long as may be:", len(p), e)
	}
	if p, e := field.Of(make(B, 512)); p != nil || e != api.ErrArg {
		t.Error("Of too many:", e)
	}
	if p, e := field.Of(make(B, 511)); len(p) != 512 || e != api.OK {
		t.Error("Of as many as may be:", e)
	}
}

func TestP18_3Points(t *testing.T) {
	if p, e := field.Of(B{1, 2}); e != api.OK || !slices.Equal(p, B{2, 3, 1}) {
		t.Error("Of:", p, e)
	}
	if p, e := field.Of(nil); e != api.OK || !slices.Equal(p, B{1}) {
		t.Error("Of none:", p, e)
	}
	if p, e := field.Of(B{3, 3}); e != api.OK || !slices.Equal(p, B{5, 0, 1}) {
		t.Error("Of a root twice:", p, e)
	}
	if p, e := field.Through([]field.Point{{0, 7}, {1, 7}}); e != api.OK || !slices.Equal(p, B{7}) {
		t.Error("Through:", p, e)
	}
	if p, e := field.Through(nil); e != api.OK || len(p) != 0 {
		t.Error("Through none:", p, e)
	}
	p, e := field.Through([]field.Point{{0, 1}, {1, 0}, {2, 0}})
	roots, _ := field.Roots(p)
	if x, _ := field.At(p, 0); x != 1 || e != api.OK || !slices.Equal(roots, B{1, 2}) {
		t.Error("Through:", p, e)
	}
	for _, l := range [][]field.Point{{{1, 1}, {1, 1}}, {{1, 1}, {2, 0}, {1, 3}}, make([]field.Point, 257)} {
		if p, e := field.Through(l); p != nil || e != api.ErrArg {
			t.Error("Through:", p, e)
		}
	}
}

func TestP18_4Field(t *testing.T) {
	r := rand.New(rand.NewSource(1))
	for range 2000 {
		a, b, c := uint8(r.Intn(256)), uint8(r.Intn(256)), uint8(r.Intn(256))
		if field.Times(a, b) != field.Times(b, a) || field.Times(a, field.Times(b, c)) != field.Times(field.Times(a, b), c) || field.Times(a, b^c) != field.Times(a, b)^field.Times(a, c) {
			t.Fatal("a field:", a, b, c)
		}
		n, m := r.Int()-r.Int(), r.Int()/2-r.Int()/2
		x, _ := field.Power(a, n/2)
		y, _ := field.Power(a, m/2)
		if z, e := field.Power(a, n/2+m/2); a != 0 && (z != field.Times(x, y) || e != api.OK) {
			t.Fatal("Power adds up:", a, n, m)
		}
		if one, _ := field.Power(a, 255); a != 0 && one != 1 {
			t.Fatal("a turn:", a)
		}
	}
}

func TestP18_5Polynomials(t *testing.T) {
	r := rand.New(rand.NewSource(2))
	divides := func(d, p B) bool {
		_, rest, e := field.Divide(p, d)
		return e == api.OK && len(rest) == 0
	}
	for range 300 {
		p, q, d := some(r, r.Intn(9)), some(r, 1+r.Intn(9)), some(r, 1+r.Intn(3))
		x := uint8(r.Intn(256))
		sum, _ := field.Sum(p, q)
		product, _ := field.Product(p, q)
		a, _ := field.At(p, x)
		b, _ := field.At(q, x)
		s, _ := field.At(sum, x)
		m, _ := field.At(product, x)
		if s != a^b || m != field.Times(a, b) || len(p) > 0 && len(product) != len(p)+len(q)-1 {
			t.Fatal("At:", p, q, x)
		}
		quotient, rest, _ := field.Divide(p, q)
		back, _ := field.Product(quotient, q)
		if back, _ = field.Sum(back, rest); !slices.Equal(back, p) || len(rest) >= len(q) {
			t.Fatal("Divide:", p, q)
		}
		pd, _ := field.Product(p, d)
		qd, _ := field.Product(q, d)
		g, _ := field.Gcd(pd, qd)
		if !divides(g, pd) || !divides(g, qd) || !divides(d, g) || g[len(g)-1] != 1 {
			t.Fatal("Gcd:", pd, qd, g)
		}
		if len(p) == 0 {
			continue
		}
		roots, _ := field.Roots(pd)
		slope, _ := field.Slope(pd)
		if len(roots) >= len(pd) || !slices.IsSorted(roots) {
			t.Fatal("Roots:", pd, roots)
		}
		one, _ := field.Of(B{x})
		two, _ := field.Of(B{x, x})
		y, _ := field.At(slope, x)
		if divides(one, pd) != slices.Contains(roots, x) || divides(two, pd) != (slices.Contains(roots, x) && y == 0) {
			t.Fatal("x - r divides:", pd, x)
		}
		twice, _ := field.Product(pd, two)
		slope, _ = field.Slope(twice)
		if y, _ := field.At(slope, x); y != 0 {
			t.Fatal("divides twice:", pd, x)
		}
	}
}

func TestP18_6Through(t *testing.T) {
	r := rand.New(rand.NewSource(3))
	for i := range 60 {
		n := r.Intn(30)
		if i == 0 {
			n = 256
		}
		p := some(r, r.Intn(n+1))
		l := make([]field.Point, n)
		other := make([]field.Point, n)
		for i, x := range r.Perm(256)[:n] {
			y, _ := field.At(p, uint8(x))
			l[i] = field.Point{X: uint8(x), Y: y}
			other[i] = field.Point{X: uint8(x), Y: uint8(r.Intn(256))}
		}
		if q, e := field.Through(l); e != api.OK || !slices.Equal(q, p) {
			t.Fatal("Through of At:", p, q, e)
		}
		q, e := field.Through(other)
		if e != api.OK || len(q) > n {
			t.Fatal("Through:", len(q), n, e)
		}
		for _, point := range other {
			if y, _ := field.At(q, point.X); y != point.Y {
				t.Fatal("Through misses:", point)
			}
		}
	}
}
