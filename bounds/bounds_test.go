package bounds_test

import (
	"math"
	"slices"
	"testing"

	"foghorn/api"
	"foghorn/bounds"
)

var nan, inf = math.NaN(), math.Inf(1)

func TestTaps(t *testing.T) {
	for _, l := range [][]complex128{{1}, {-1 - 1i, 1 + 1i}, {0}, {1.0 / 64}, slices.Repeat([]complex128{1.0 / 16}, api.MaxTaps)} {
		if !bounds.Taps(l) {
			t.Error("taps:", l)
		}
	}
	for _, l := range [][]complex128{nil, {2}, {1.0 / 128}, {1, 1, 1, 1, 1.0 / 64}, {complex(nan, 0)}, {complex(0, inf)}, {65.0 / 64}, {2i}, {1 + 1i, 1 + 1i, 1.0 / 64}, make([]complex128, api.MaxTaps+1)} {
		if bounds.Taps(l) {
			t.Error("no taps:", l)
		}
	}
	if !bounds.Reals([]float64{1, -1, 0.5}) || bounds.Reals(nil) || bounds.Reals([]float64{nan}) || bounds.Reals(make([]float64, api.MaxTaps+1)) {
		t.Error("Reals")
	}
}

func TestPlain(t *testing.T) {
	if !bounds.Plain() || !bounds.Plain(128-128i, 1.0/64) {
		t.Error("plain")
	}
	for _, z := range []complex128{128 + 1.0/64, complex(0, -129), 1.0 / 128, complex(nan, 0), complex(0, -inf)} {
		if bounds.Plain(1, z) {
			t.Error("not plain:", z)
		}
	}
}

func TestFirst(t *testing.T) {
	for n, turn := range []complex128{1, 1i, -1, -1i} {
		for _, size := range []float64{1, 0.5, 0.25} {
			if s, q, ok := bounds.First(complex(size, 0) * turn); s != size || q != n || !ok {
				t.Error("First:", size, n, s, q, ok)
			}
		}
	}
	for _, z := range []complex128{0, 0.125, 2, 1 + 1i, 0.5i + 0.25, -0.5 + 0.5i, -0.5 - 0.5i, 0.5 - 0.5i, -1i - 0.25, complex(nan, 0), complex(0, inf), complex(1, nan)} {
		if s, q, ok := bounds.First(z); s != 0 || q != 0 || ok {
			t.Error("no first tap:", z, s, q, ok)
		}
	}
}
