package plane_test

import (
	"math"
	"math/rand"
	"slices"
	"testing"

	"foghorn/api"
	"foghorn/plane"
)

type G = plane.Gauss

var (
	nan = math.NaN()
	inf = math.Inf(1)
)

// alike tells parts by their bits, so that noughts' signs count.
func alike(a, b complex128) bool {
	same := func(x, y float64) bool {
		return math.Float64bits(x) == math.Float64bits(y) || x != x && y != y
	}
	return same(real(a), real(b)) && same(imag(a), imag(b))
}

func TestP3_1Parts(t *testing.T) {
	if z := plane.Mul(1+2i, 3-1i); z != 5+5i {
		t.Error("Mul:", z)
	}
	if z := plane.Mul(complex(inf, 0), 1); real(z) != inf || !math.IsNaN(imag(z)) {
		t.Error("Mul of an infinity:", z)
	}
	// The products are rounded ahead of the sum: unrounded the real part would be 2^-60.
	x := 1 + math.Ldexp(1, -30)
	if z := plane.Mul(complex(x, 1), complex(x, 1+math.Ldexp(1, -29))); real(z) != 0 {
		t.Error("Mul taken as one:", z)
	}
	if z := plane.Sum([]complex128{1, 2i, -1}); z != 2i {
		t.Error("Sum:", z)
	}
	if z := plane.Sum([]complex128{1e16, 1, -1e16}); z != 0 {
		t.Error("Sum from the first on:", z)
	}
	if z := plane.Sum(nil); !alike(z, 0) {
		t.Error("Sum of none:", z)
	}
	neg := math.Copysign(0, -1)
	for _, c := range []struct {
		z    complex128
		n    int
		want complex128
	}{{1 + 2i, 1, -2 + 1i}, {1 + 2i, -1, 2 - 1i}, {1 + 2i, 6, -1 - 2i}, {0, 1, complex(neg, 0)}, {0, 2, complex(neg, neg)}, {0, 3, complex(0, neg)}, {complex(neg, 0), 4, complex(neg, 0)}, {1 + 2i, math.MinInt, 1 + 2i}, {1 + 2i, math.MaxInt, 2 - 1i}} {
		if z := plane.Turn(c.z, c.n); !alike(z, c.want) {
			t.Error("Turn:", c.z, c.n, z)
		}
	}
	if z := plane.Conj(1 + 2i); z != 1-2i {
		t.Error("Conj:", z)
	}
	if z := plane.Conj(complex(neg, 0)); !alike(z, complex(neg, neg)) {
		t.Error("Conj of noughts:", z)
	}
	if n := plane.Norm(3 - 4i); n != 25 {
		t.Error("Norm:", n)
	}
	if n := plane.Apart(1+1i, -2+5i); n != 25 {
		t.Error("Apart:", n)
	}
	if n := plane.Norm(complex(nan, 0)); n == n {
		t.Error("Norm of no number:", n)
	}
}

func TestP3_2Filter(t *testing.T) {
	l, e := plane.Filter([]complex128{1, -1i}, []complex128{1, 2, 3})
	if e != api.OK || !slices.Equal(l, []complex128{1, 2 - 1i, 3 - 2i}) {
		t.Error("Filter:", l, e)
	}
	if l, e := plane.Filter([]complex128{1}, nil); len(l) != 0 || e != api.OK {
		t.Error("Filter of none:", l, e)
	}
	for _, c := range []struct{ h, n int }{{0, 1}, {api.MaxTaps + 1, 1}, {1, api.MaxSamples + 1}} {
		if l, e := plane.Filter(make([]complex128, c.h), make([]complex128, c.n)); l != nil || e != api.ErrArg {
			t.Error("Filter:", c, e)
		}
	}
	if l, e := plane.Filter(make([]complex128, api.MaxTaps), make([]complex128, api.MaxSamples)); len(l) != api.MaxSamples || e != api.OK {
		t.Error("the greatest Filter:", e)
	}
}

func TestP3_3Whole(t *testing.T) {
	for _, g := range []G{{3, -4}, {1 << 30, -1 << 30}, {}} {
		if w, e := plane.Whole(g.Number()); w != g || e != api.OK {
			t.Error("Whole:", g, w, e)
		}
	}
	for _, z := range []complex128{0.5, 1 << 31, complex(0, 1<<30+1), complex(nan, 0), complex(0, inf), complex(0, -0.25)} {
		if w, e := plane.Whole(z); w != (G{}) || e != api.ErrArg {
			t.Error("Whole:", z, w, e)
		}
	}
	if z := (G{1<<53 + 1, math.MinInt64}).Number(); z != complex(1<<53, -math.Ldexp(1, 63)) {
		t.Error("Number:", z)
	}
	if p, e := (G{3, 1}).Times(G{1, 2}); p != (G{1, 7}) || e != api.OK {
		t.Error("Times:", p, e)
	}
	if q, rest, e := (G{7, 1}).By(G{2, 0}); q != (G{3, 0}) || rest != (G{1, 1}) || e != api.OK {
		t.Error("By:", q, rest, e)
	}
	if q, rest, e := (G{-7, -1}).By(G{2, 0}); q != (G{-4, -1}) || rest != (G{1, 1}) || e != api.OK {
		t.Error("By of one below 0:", q, rest, e)
	}
	if q, rest, e := (G{7, 1}).By(G{}); q != (G{}) || rest != (G{}) || e != api.ErrNone {
		t.Error("By nought:", q, rest, e)
	}
	if n, e := (G{1 << 30, -1 << 30}).Norm(); n != 1<<61 || e != api.OK {
		t.Error("Norm:", n, e)
	}
	far := G{1<<30 + 1, 0}
	if _, e := far.Times(G{}); e != api.ErrArg {
		t.Error("Times:", e)
	}
	if _, e := (G{}).Times(G{0, math.MinInt64}); e != api.ErrArg {
		t.Error("Times:", e)
	}
	if _, _, e := far.By(G{}); e != api.ErrArg {
		t.Error("By:", e)
	}
	if _, _, e := (G{}).By(far); e != api.ErrArg {
		t.Error("By:", e)
	}
	if n, e := far.Norm(); n != 0 || e != api.ErrArg {
		t.Error("Norm:", n, e)
	}
}

func TestP3_4Gcd(t *testing.T) {
	for _, c := range []struct{ a, b, want G }{{G{4, 2}, G{6, 0}, G{2, 0}}, {G{}, G{0, -3}, G{3, 0}}, {G{}, G{}, G{}}, {G{5, 0}, G{2, 1}, G{2, 1}}, {G{-1, -1}, G{}, G{1, 1}}, {G{0, 1}, G{7, 7}, G{1, 0}}} {
		if d, e := plane.Gcd(c.a, c.b); d != c.want || e != api.OK {
			t.Error("Gcd:", c.a, c.b, d, e)
		}
	}
	if _, e := plane.Gcd(G{}, G{0, 1<<30 + 1}); e != api.ErrArg {
		t.Error("Gcd:", e)
	}
	if _, e := plane.Gcd(G{-1<<30 - 1, 0}, G{}); e != api.ErrArg {
		t.Error("Gcd:", e)
	}
}

func TestP3_5Classes(t *testing.T) {
	if c, e := (G{3, 2}).Class(3); c != 1 || e != api.OK {
		t.Error("Class:", c, e)
	}
	if g, e := plane.First(5, 3); g != (G{1, 2}) || e != api.OK {
		t.Error("First:", g, e)
	}
	if n, e := (G{2, 2}).Depth(); n != 3 || e != api.OK {
		t.Error("Depth:", n, e)
	}
	if n, e := (G{1 << 30, 1 << 30}).Depth(); n != 61 || e != api.OK {
		t.Error("the greatest Depth:", n, e)
	}
	if n, e := (G{}).Depth(); n != 0 || e != api.ErrNone {
		t.Error("Depth of 0:", n, e)
	}
	if n, e := (G{1<<30 + 1, 0}).Depth(); n != 0 || e != api.ErrArg {
		t.Error("Depth:", n, e)
	}
	if n, e := (G{-1 << 30, -1 << 30}).Norm(); n != 1<<61 || e != api.OK {
		t.Error("Norm of the least parts:", n, e)
	}
	if c, e := (G{1 << 30, 1<<30 + 1}).Class(3); c != 0 || e != api.ErrArg {
		t.Error("Class:", c, e)
	}
	for _, depth := range []int{-1, 31, math.MinInt} {
		if _, e := (G{}).Class(depth); e != api.ErrArg {
			t.Error("Class:", depth, e)
		}
		if _, e := plane.First(0, depth); e != api.ErrArg {
			t.Error("First:", depth, e)
		}
	}
	if _, e := (G{0, 1<<30 + 1}).Class(0); e != api.ErrArg {
		t.Error("Class:", e)
	}
	if g, e := plane.First(8, 3); g != (G{}) || e != api.ErrArg {
		t.Error("First past the end:", g, e)
	}
	if g, e := plane.First(0, 0); g != (G{}) || e != api.OK {
		t.Error("First of nothing:", g, e)
	}
}

func some(r *rand.Rand, n int64) G { return G{r.Int63n(2*n+1) - n, r.Int63n(2*n+1) - n} }

func TestP3_6ByParts(t *testing.T) {
	r := rand.New(rand.NewSource(1))
	for range 500 {
		a, b, c := some(r, 1<<10), some(r, 1<<10), some(r, 1<<10)
		x, y, z := a.Number()/64, b.Number()/64, c.Number()/64
		if plane.Mul(x, y) != plane.Mul(y, x) || plane.Mul(x, y+z) != plane.Mul(x, y)+plane.Mul(x, z) {
			t.Fatal("Mul:", x, y, z)
		}
		n, m := r.Intn(20)-10, r.Intn(20)-10
		if plane.Mul(plane.Turn(x, n), y) != plane.Turn(plane.Mul(x, y), n) {
			t.Fatal("Turn through Mul:", x, y, n)
		}
		if plane.Sum([]complex128{plane.Turn(x, n), plane.Turn(y, n)}) != plane.Turn(plane.Sum([]complex128{x, y}), n) {
			t.Fatal("Turn through Sum:", x, y, n)
		}
		if !alike(plane.Turn(plane.Turn(x, n), m), plane.Turn(x, n+m)) || !alike(plane.Turn(x, 4), x) {
			t.Fatal("Turns:", x, n, m)
		}
		one, _ := plane.Filter([]complex128{x, y}, []complex128{z, x})
		two, _ := plane.Filter([]complex128{x, y}, []complex128{plane.Turn(z, n), plane.Turn(x, n)})
		for i := range one {
			if plane.Turn(one[i], n) != two[i] {
				t.Fatal("Turn through Filter")
			}
		}
		p := plane.Mul(a.Number(), b.Number())
		if plane.Norm(p) != plane.Norm(a.Number())*plane.Norm(b.Number()) {
			t.Fatal("norms:", a, b)
		}
	}
}

func TestP3_7Whole(t *testing.T) {
	r := rand.New(rand.NewSource(2))
	for i := range 2000 {
		size := []int64{3, 1000, plane.MaxGauss}[i%3]
		a, b := some(r, size), some(r, size)
		if b == (G{}) {
			continue
		}
		q, rest, _ := a.By(b)
		if back := (G{q.Re*b.Re - q.Im*b.Im + rest.Re, q.Re*b.Im + q.Im*b.Re + rest.Im}); back != a {
			t.Fatal("By:", a, b, q, rest)
		}
		n, _ := rest.Norm()
		m, _ := b.Norm()
		if 2*n > m {
			t.Fatal("the rest's norm:", a, b, rest)
		}
		d, _ := plane.Gcd(a, b)
		for _, g := range []G{a, b} {
			if _, rest, _ := g.By(d); rest != (G{}) || d.Re <= 0 || d.Im < 0 {
				t.Fatal("Gcd:", a, b, d)
			}
		}
		c := some(r, 20)
		if size > 1000 || c == (G{}) {
			continue
		}
		ac, _ := a.Times(c)
		bc, _ := b.Times(c)
		if d, _ = plane.Gcd(ac, bc); true {
			if _, rest, _ := d.By(c); rest != (G{}) {
				t.Fatal("what divides both:", a, b, c, d)
			}
		}
		na, _ := a.Norm()
		nc, _ := c.Norm()
		if n, _ := ac.Norm(); n != na*nc {
			t.Fatal("the norm of a product:", a, c)
		}
	}
}

func TestP3_8Residues(t *testing.T) {
	r := rand.New(rand.NewSource(3))
	for range 2000 {
		depth := r.Intn(31)
		class := uint32(r.Int63n(1 << depth))
		g, _ := plane.First(class, depth)
		if c, e := g.Class(depth); c != class || e != api.OK {
			t.Fatal("Class of First:", class, depth, c)
		}
		a, b := some(r, 40), some(r, 40)
		depth = r.Intn(12)
		ca, _ := a.Class(depth)
		cb, _ := b.Class(depth)
		n, e := (G{a.Re - b.Re, a.Im - b.Im}).Depth()
		if (ca == cb) != (e == api.ErrNone || n >= depth) {
			t.Fatal("classes:", a, b, depth)
		}
		if apart := plane.Apart(a.Number(), b.Number()); ca == cb && a != b && apart < float64(int(1)<<depth) {
			t.Fatal("apart:", a, b, depth)
		}
		if lower, _ := a.Class(depth / 2); lower != ca&(1<<(depth/2)-1) {
			t.Fatal("a lesser depth:", a, depth)
		}
		if n, e := a.Depth(); e == api.OK {
			at, _ := a.Class(n)
			above, _ := a.Class(n + 1)
			if at != 0 || above == 0 {
				t.Fatal("Depth and Class:", a, n)
			}
		}
	}
}
