package tones_test

import (
	"math"
	"math/rand"
	"slices"
	"testing"

	"foghorn/api"
	"foghorn/plane"
	"foghorn/tones"
)

var powers = []int{math.MinInt, -1, 0, 4, math.MaxInt}

func some(r *rand.Rand, n int) []complex128 {
	l := make([]complex128, n)
	for i := range l {
		l[i] = complex(float64(r.Intn(8193)-4096)/64, float64(r.Intn(8193)-4096)/64)
	}
	return l
}

func TestP9_1Entry(t *testing.T) {
	for _, c := range [][4]int{{1, 3, 3, 1}, {2, 7, 6, 3}, {3, 63, 63, 3}, {3, 0, 63, 0}, {1, 2, 2, 0}} {
		if n, e := tones.Entry(c[0], c[1], c[2]); n != c[3] || e != api.OK {
			t.Error("Entry:", c, n, e)
		}
	}
	for _, c := range [][3]int{{1, 4, 0}, {1, 0, 4}, {1, -1, 0}, {1, 0, -1}, {4, 0, 0}, {0, 0, 0}, {3, 64, 0}, {2, math.MaxInt, math.MinInt}} {
		if n, e := tones.Entry(c[0], c[1], c[2]); n != 0 || e != api.ErrArg {
			t.Error("Entry:", c, n, e)
		}
	}
}

func TestP9_1Rows(t *testing.T) {
	for _, c := range [][2][]complex128{{{4, 0, 0, 0}, {2, 2, 2, 2}}, {{0, 4, 0, 0}, {2, 2i, -2, -2i}}, {{4, 0, 0, 0, 0, 4, 0, 0}, {2, 2, 2, 2, 2, 2i, -2, -2i}}} {
		if l, e := tones.Send(1, c[0]); e != api.OK || !slices.Equal(l, c[1]) {
			t.Error("Send:", c[0], l, e)
		}
		if l, e := tones.Back(1, c[1]); e != api.OK || !slices.Equal(l, c[0]) {
			t.Error("Back:", c[1], l, e)
		}
	}
	if l, e := tones.Back(1, []complex128{1, 0, 0, 0}); e != api.OK || !slices.Equal(l, []complex128{0.5, 0.5, 0.5, 0.5}) {
		t.Error("Back:", l, e)
	}
	if l, e := tones.Pure(1, 2); e != api.OK || !slices.Equal(l, []complex128{0.5, -0.5, 0.5, -0.5}) {
		t.Error("Pure:", l, e)
	}
	for _, c := range [][2]int{{1, 4}, {1, -1}, {0, 0}, {4, 0}} {
		if l, e := tones.Pure(c[0], c[1]); l != nil || e != api.ErrArg {
			t.Error("Pure:", c, l, e)
		}
	}
	for _, f := range []func(int, []complex128) ([]complex128, api.Errno){tones.Send, tones.Back, func(p int, l []complex128) ([]complex128, api.Errno) { return tones.Round(p, l, 1) }} {
		for _, power := range powers {
			if l, e := f(power, nil); l != nil || e != api.ErrArg {
				t.Error("the power:", power, l, e)
			}
		}
		for _, n := range []int{1, 3, api.MaxSamples + 4} {
			if l, e := f(1, make([]complex128, n)); l != nil || e != api.ErrArg {
				t.Error("no list of rows:", n, e)
			}
		}
		if l, e := f(3, nil); len(l) != 0 || e != api.OK {
			t.Error("none:", l, e)
		}
		if l, e := f(3, make([]complex128, api.MaxSamples)); len(l) != api.MaxSamples || e != api.OK {
			t.Error("the longest list:", e)
		}
		if _, e := f(3, make([]complex128, 32)); e != api.ErrArg {
			t.Error("half a row:", e)
		}
	}
}

func TestP9_2Heard(t *testing.T) {
	row := []api.Sample{{V: 1}, {Lost: true}, {}, {}, {V: 2}, {V: 2i}, {V: -2}, {V: -2i}}
	l, there, e := tones.Heard(1, row)
	if e != api.OK || !slices.Equal(l, []complex128{0, 0, 0, 0, 0, 4, 0, 0}) || !slices.Equal(there, []bool{false, false, false, false, true, true, true, true}) {
		t.Error("Heard:", l, there, e)
	}
	for _, power := range powers {
		if l, there, e := tones.Heard(power, nil); l != nil || there != nil || e != api.ErrArg {
			t.Error("Heard:", power, e)
		}
	}
	if l, there, e := tones.Heard(1, row[:3]); l != nil || there != nil || e != api.ErrArg {
		t.Error("Heard of no rows:", e)
	}
}

func TestP9_3EnergyAndRound(t *testing.T) {
	if x, e := tones.Energy([]complex128{3, 4i}); x != 25 || e != api.OK {
		t.Error("Energy:", x, e)
	}
	if x, e := tones.Energy(make([]complex128, api.MaxSamples+1)); x != 0 || e != api.ErrArg {
		t.Error("Energy of too many:", x, e)
	}
	row := []complex128{1, 2, 3, 4, 5, 6, 7, 8}
	for by, want := range map[int][]complex128{1: {4, 1, 2, 3, 8, 5, 6, 7}, -1: {2, 3, 4, 1, 6, 7, 8, 5}, 4: row, math.MinInt: row, math.MaxInt: {2, 3, 4, 1, 6, 7, 8, 5}} {
		if l, e := tones.Round(1, row, by); e != api.OK || !slices.Equal(l, want) {
			t.Error("Round:", by, l, e)
		}
	}
}

func TestP9_4And5ThereAndBack(t *testing.T) {
	r := rand.New(rand.NewSource(1))
	for range 30 {
		power := 1 + r.Intn(3)
		n := 1 << (2 * power)
		a, b := some(r, 2*n), some(r, 2*n)
		one, _ := tones.Send(power, a)
		two, _ := tones.Send(power, b)
		back, _ := tones.Back(power, one)
		other, _ := tones.Back(power, a)
		other, _ = tones.Send(power, other)
		if !slices.Equal(back, a) || !slices.Equal(other, a) {
			t.Fatal("there and back:", power)
		}
		sum, turned := make([]complex128, 2*n), make([]complex128, 2*n)
		k := r.Intn(4)
		for i := range sum {
			sum[i], turned[i] = a[i]+b[i], plane.Turn(a[i], k)
		}
		sum, _ = tones.Send(power, sum)
		turned, _ = tones.Send(power, turned)
		for i := range sum {
			if sum[i] != one[i]+two[i] || turned[i] != plane.Turn(one[i], k) {
				t.Fatal("linear:", power, i)
			}
		}
		for at := 0; at < 2*n; at += n {
			there, _ := tones.Energy(one[at : at+n])
			here, _ := tones.Energy(a[at : at+n])
			if there != here {
				t.Fatal("energies:", power, there, here)
			}
		}
		tone := r.Intn(n)
		alone := make([]complex128, n)
		alone[tone] = a[tone]
		sent, _ := tones.Send(power, alone)
		if heard, _ := tones.Back(power, sent); !slices.Equal(heard, alone) {
			t.Fatal("a tone alone:", power, tone)
		}
	}
}

func TestP9_6Shifted(t *testing.T) {
	r := rand.New(rand.NewSource(2))
	a := some(r, 4)
	sent, _ := tones.Send(1, a)
	sent, _ = tones.Round(1, sent, 1)
	heard, _ := tones.Back(1, sent)
	for tone, z := range heard {
		if z != plane.Turn(a[tone], -tone) {
			t.Error("shifted round:", tone, z)
		}
	}
	for power := 1; power <= 3; power++ {
		first, _ := tones.Pure(power, 0)
		for _, z := range first {
			if z != first[0] {
				t.Error("the tone 0:", power, z)
			}
		}
		n := 1 << (2 * power)
		for range 200 {
			place, a, b := r.Intn(n), r.Intn(n), r.Intn(n)
			sum := 0
			for digit := 0; digit < 2*power; digit += 2 {
				sum |= (a>>digit&3 + b>>digit&3) & 3 << digit
			}
			one, _ := tones.Entry(power, place, a)
			two, _ := tones.Entry(power, place, b)
			if both, _ := tones.Entry(power, place, sum); both != (one+two)&3 {
				t.Fatal("two tones:", power, place, a, b)
			}
		}
	}
}
