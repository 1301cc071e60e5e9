// Package bounds tells which taps, plain rows and first taps may be: several layers ask the same.
package bounds

import (
	"math"

	"foghorn/api"
)

const (
	fine    = 64 // steps of a tap, and of a plain number, from 0 to 1
	most    = 4  // the sizes of all parts of taps together
	loudest = 128
)

// Fine says whether a number is a multiple of 2^-6, and at most edge in size.
func Fine(x, edge float64) bool {
	return math.Abs(x) <= edge && x*fine == math.Trunc(x*fine)
}

// Taps says whether numbers are taps.
func Taps(l []complex128) bool {
	if len(l) < 1 || len(l) > api.MaxTaps {
		return false
	}
	sizes := 0.0
	for _, z := range l {
		if !Fine(real(z), 1) || !Fine(imag(z), 1) {
			return false
		}
		sizes += math.Abs(real(z)) + math.Abs(imag(z))
	}
	return sizes <= most
}

// Reals says whether real numbers, as complex ones, are taps.
func Reals(l []float64) bool {
	if len(l) > api.MaxTaps {
		return false
	}
	taps := make([]complex128, len(l))
	for i, x := range l {
		taps[i] = complex(x, 0)
	}
	return Taps(taps)
}

// Plain says whether each number may stand in a plain row.
func Plain(l ...complex128) bool {
	for _, z := range l {
		if !Fine(real(z), loudest) || !Fine(imag(z), loudest) {
			return false
		}
	}
	return true
}

// First is a tap as a size (1, 1/2 or 1/4) turned by quarters, if it is one.
func First(z complex128) (size float64, quarters int, ok bool) {
	switch re, im := real(z), imag(z); {
	case im == 0 && re > 0:
		quarters = 0
	case re == 0 && im > 0:
		quarters = 1
	case im == 0 && re < 0:
		quarters = 2
	case re == 0 && im < 0:
		quarters = 3
	default:
		return 0, 0, false
	}
	size = max(math.Abs(real(z)), math.Abs(imag(z)))
	if size != 1 && size != 0.5 && size != 0.25 {
		return 0, 0, false
	}
	return size, quarters, true
}
