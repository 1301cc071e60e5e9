package hard_test

import (
	"math"
	"math/rand"
	"slices"
	"testing"

	"foghorn/api"
	"foghorn/bits"
	"foghorn/hard"
	"foghorn/trellis"
)

func row(s string) []bool {
	l := make([]bool, len(s))
	for i := range s {
		l[i] = s[i] == '1'
	}
	return l
}

// marks reads 0, 1 and - (gone).
func marks(s string) []hard.Mark {
	l := hard.Marks(row(s))
	for i := range s {
		if s[i] == '-' {
			l[i] = hard.Gone
		}
	}
	return l
}

func some(r *rand.Rand, n int) []bool {
	l := make([]bool, n)
	for i := range l {
		l[i] = r.Intn(2) == 1
	}
	return l
}

func TestP22_1Costs(t *testing.T) {
	c := trellis.Short()
	if l := hard.Marks(row("101")); !slices.Equal(l, []hard.Mark{hard.One, hard.Zero, hard.One}) {
		t.Error("Marks:", l)
	}
	if l := hard.Marks(make([]bool, api.MaxBits+1)); len(l) != api.MaxBits+1 {
		t.Error("Marks of many:", len(l))
	}
	for _, x := range []struct {
		message, marks string
		cost           int
		e              api.Errno
	}{{"1", "000000", 5, api.OK}, {"1", "0-0-00", 4, api.OK}, {"", "0000", 0, api.OK}, {"11", "000000", 0, api.ErrArg}, {"", "000000", 0, api.ErrArg}, {"", "000", 0, api.ErrArg}, {"", "00", 0, api.ErrArg}} {
		if n, e := hard.Cost(c, row(x.message), marks(x.marks)); n != x.cost || e != x.e {
			t.Error("Cost:", x, n, e)
		}
	}
	bad := []struct {
		c trellis.Code
		l []hard.Mark
	}{{trellis.Code{}, marks("000000")}, {c, make([]hard.Mark, api.MaxBits+2)}, {c, marks("00000")}, {c, marks("00")}, {c, []hard.Mark{0, 0, 0, 3}}, {c, nil}, {c, []hard.Mark{255, 0, 0, 0}}}
	for i, x := range bad {
		if n, e := hard.Cost(x.c, nil, x.l); n != 0 || e != api.ErrArg {
			t.Error("Cost:", i, n, e)
		}
		if l, n, e := hard.Path(x.c, x.l); l != nil || n != 0 || e != api.ErrArg {
			t.Error("Path:", i, l, n, e)
		}
	}
}

func TestP22_2Path(t *testing.T) {
	for _, x := range []struct {
		marks, message string
		cost           int
	}{{"111011", "1", 0}, {"110011", "1", 1}, {"------", "0", 0}, {"010000", "0", 1}, {"0000", "", 0}, {"1111", "", 4}} {
		if l, n, e := hard.Path(trellis.Short(), marks(x.marks)); bits.Text(l) != x.message || n != x.cost || e != api.OK {
			t.Error("Path:", x, bits.Text(l), n, e)
		}
	}
	if l, n, e := hard.Path(trellis.Long(), make([]hard.Mark, api.MaxBits)); len(l) != api.MaxBits/2-6 || n != 0 || e != api.OK {
		t.Error("the longest Path:", n, e)
	}
}

func TestP22_3Patterns(t *testing.T) {
	keep := row("110")
	if l, e := hard.Thin(row("1011"), keep); e != api.OK || bits.Text(l) != "101" {
		t.Error("Thin:", l, e)
	}
	if l, e := hard.Fill(row("101"), keep, 4); e != api.OK || !slices.Equal(l, marks("10-1")) {
		t.Error("Fill:", l, e)
	}
	for _, n := range []int{2, 3, 6, -1, math.MinInt, api.MaxBits + 1} {
		if l, e := hard.Fill(row("10"), keep, n); n != 2 && n != 3 && (l != nil || e != api.ErrArg) || (n == 2 || n == 3) && (e != api.OK || len(l) != n) {
			t.Error("Fill:", n, l, e)
		}
	}
	for _, keep := range [][]bool{nil, row("0"), row("000"), slices.Repeat(row("1"), 65)} {
		if l, e := hard.Thin(row("1"), keep); l != nil || e != api.ErrArg {
			t.Error("Thin:", len(keep), l, e)
		}
		if l, e := hard.Fill(nil, keep, 0); l != nil || e != api.ErrArg {
			t.Error("Fill:", len(keep), l, e)
		}
	}
	if l, e := hard.Thin(make([]bool, api.MaxBits+1), keep); l != nil || e != api.ErrArg {
		t.Error("Thin of too many:", e)
	}
	if l, e := hard.Fill(make([]bool, api.MaxBits), row("1"), api.MaxBits); len(l) != api.MaxBits || e != api.OK {
		t.Error("the longest Fill:", e)
	}
}

func TestP22_4Least(t *testing.T) {
	r := rand.New(rand.NewSource(1))
	for range 300 {
		c := []trellis.Code{trellis.Short(), {Length: 2, One: 3, Two: 2}, {Length: 4, One: 15, Two: 11}, {Length: 3, One: 6, Two: 5}}[r.Intn(4)]
		n := r.Intn(7)
		l := make([]hard.Mark, 2*(n+c.Length-1))
		for i := range l {
			l[i] = hard.Mark(r.Intn(3))
		}
		got, cost, e := hard.Path(c, l)
		best, least := "", math.MaxInt
		for m := range 1 << n {
			message := make([]bool, n)
			for i := range message {
				message[i] = m>>(n-1-i)&1 != 0
			}
			if own, _ := hard.Cost(c, message, l); own < least {
				best, least = bits.Text(message), own
			}
		}
		if bits.Text(got) != best || cost != least || e != api.OK {
			t.Fatal("least:", c, l, bits.Text(got), cost, best, least)
		}
	}
}

func TestP22_5WithinReach(t *testing.T) {
	r := rand.New(rand.NewSource(2))
	for range 300 {
		c := []trellis.Code{trellis.Short(), trellis.Long(), {Length: 5, One: 23, Two: 29}}[r.Intn(3)]
		message := some(r, r.Intn(60))
		coded, _ := c.Encode(message)
		free, _ := c.Free()
		l := hard.Marks(coded)
		turned := r.Intn((free-1)/2 + 1)
		gone := r.Intn(free - 2*turned)
		for k, at := range r.Perm(len(l))[:min(turned+gone, len(l))] {
			if k < turned {
				l[at] = 1 - l[at]
			} else {
				l[at] = hard.Gone
			}
		}
		if got, cost, e := hard.Path(c, l); e != api.OK || !slices.Equal(got, message) || cost > turned {
			t.Fatal("within reach:", c, turned, gone, e)
		}
		if got, cost, e := hard.Path(c, hard.Marks(coded)); e != api.OK || !slices.Equal(got, message) || cost != 0 {
			t.Fatal("nothing hit:", c, e)
		}
	}
}

func TestP22_6Thinned(t *testing.T) {
	r := rand.New(rand.NewSource(3))
	for range 200 {
		l, keep := some(r, r.Intn(50)), some(r, 1+r.Intn(8))
		keep[0] = true
		thin, _ := hard.Thin(l, keep)
		back, e := hard.Fill(thin, keep, len(l))
		for i, m := range back {
			if keep[i%len(keep)] && m != hard.Marks(l)[i] || !keep[i%len(keep)] && m != hard.Gone {
				t.Fatal("Fill of Thin:", l, keep, i)
			}
		}
		if len(back) != len(l) || e != api.OK {
			t.Fatal("Fill of Thin:", e)
		}
		if all, _ := hard.Thin(l, row("111")); !slices.Equal(all, l) {
			t.Fatal("truths alone")
		}
	}
}
