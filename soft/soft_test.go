package soft_test

import (
	"math"
	"math/rand"
	"slices"
	"testing"

	"foghorn/api"
	"foghorn/bits"
	"foghorn/soft"
	"foghorn/trellis"
)

var (
	nan   = math.NaN()
	inf   = math.Inf(1)
	lost  = api.Sample{Lost: true}
	codes = []trellis.Code{trellis.Short(), {Length: 2, One: 3, Two: 2}, {Length: 4, One: 15, Two: 11}, {Length: 3, One: 6, Two: 5}}
)

func row(l ...complex128) []api.Sample {
	out := make([]api.Sample, len(l))
	for i, z := range l {
		out[i].V = z
	}
	return out
}

func some(r *rand.Rand, n int) []bool {
	l := make([]bool, n)
	for i := range l {
		l[i] = r.Intn(2) == 1
	}
	return l
}

// coarse is a row with many ties.
func coarse(r *rand.Rand, n int) []api.Sample {
	l := make([]api.Sample, n)
	for i := range l {
		if r.Intn(5) == 0 {
			l[i] = lost
		} else {
			l[i].V = complex(float64(r.Intn(5)-2)/2, float64(r.Intn(5)-2)/2)
		}
	}
	return l
}

// messages are all messages of so many bits, the least first.
func messages(n int) [][]bool {
	var out [][]bool
	for m := range 1 << n {
		message := make([]bool, n)
		for i := range message {
			message[i] = m>>(n-1-i)&1 != 0
		}
		out = append(out, message)
	}
	return out
}

func TestP23_1Costs(t *testing.T) {
	if soft.Point(true, false) != 1-1i || soft.Point(false, true) != -1+1i {
		t.Error("Point")
	}
	if l, e := soft.Send(trellis.Short(), []bool{true}); e != api.OK || !slices.Equal(l, []complex128{1 + 1i, 1 - 1i, 1 + 1i}) {
		t.Error("Send:", l, e)
	}
	for _, c := range []trellis.Code{{}, {Length: 8, One: 1, Two: 1}} {
		if l, e := soft.Send(c, nil); l != nil || e != api.ErrArg {
			t.Error("Send:", c, e)
		}
	}
	if l, e := soft.Send(trellis.Short(), make([]bool, 16383)); l != nil || e != api.ErrArg {
		t.Error("Send of too many:", e)
	}
	for _, c := range []struct {
		one, two bool
		s        api.Sample
		want     float64
		e        api.Errno
	}{{true, true, api.Sample{V: 1 + 1i}, -2, api.OK}, {false, false, api.Sample{V: 1 + 1i}, 6, api.OK}, {true, true, lost, 0, api.OK}, {true, false, api.Sample{V: 0.5 - 2i}, -3, api.OK}, {true, true, api.Sample{V: 0.1}, 0, api.ErrGrid}, {true, true, api.Sample{V: complex(nan, 0)}, 0, api.ErrGrid}, {true, true, api.Sample{V: 1, Lost: true}, 0, api.ErrGrid}} {
		if x, e := soft.Cost(c.one, c.two, c.s); x != c.want || e != c.e {
			t.Error("Cost:", c, x, e)
		}
	}
	if x, e := soft.Path(trellis.Short(), []bool{true}, row(0.5+0.25i, -1+0.5i, 0.25+1i)); x != 5 || e != api.OK {
		t.Error("Path:", x, e)
	}
}

func TestP23_1Refused(t *testing.T) {
	c, long := trellis.Short(), make([]api.Sample, soft.MaxRow+1)
	for i, x := range []struct {
		c       trellis.Code
		message []bool
		l       []api.Sample
		e       api.Errno
	}{{trellis.Code{}, nil, row(0.1), api.ErrArg}, {c, make([]bool, soft.MaxRow-1), long, api.ErrArg}, {c, nil, row(0.1), api.ErrArg}, {c, nil, row(1, 2, 3), api.ErrArg}, {c, nil, row(1, 0.1), api.ErrGrid}} {
		if y, e := soft.Path(x.c, x.message, x.l); y != 0 || e != x.e {
			t.Error("Path:", i, y, e)
		}
	}
	for i, x := range []struct {
		c trellis.Code
		l []api.Sample
		e api.Errno
	}{{trellis.Code{}, nil, api.ErrArg}, {c, long, api.ErrArg}, {c, row(0.1), api.ErrArg}, {c, nil, api.ErrArg}, {c, row(1, 1, 0.1), api.ErrGrid}, {trellis.Long(), row(1, 1, 1, 1, 1), api.ErrArg}} {
		if l, y, e := soft.Decode(x.c, x.l); l != nil || y != 0 || e != x.e {
			t.Error("Decode:", i, e)
		}
		if y, e := soft.Margin(x.c, x.l); y != 0 || e != x.e {
			t.Error("Margin:", i, e)
		}
	}
	for i, x := range []struct {
		c trellis.Code
		l []api.Sample
		e api.Errno
	}{{trellis.Code{}, nil, api.ErrArg}, {c, long, api.ErrArg}, {c, row(0.1), api.ErrGrid}} {
		if l, e := soft.Ends(x.c, x.l); l != nil || e != x.e {
			t.Error("Ends:", i, e)
		}
	}
}

func TestP23_2Decode(t *testing.T) {
	for _, x := range []struct {
		l       []api.Sample
		message string
		cost    float64
		margin  float64
	}{{row(1+1i, 1-1i, 1+1i), "1", -6, 20}, {row(0.5+0.25i, -1+0.5i, 0.25+1i), "1", 5, 4}, {[]api.Sample{lost, lost, lost}, "0", 0, 0}} {
		l, cost, e := soft.Decode(trellis.Short(), x.l)
		margin, f := soft.Margin(trellis.Short(), x.l)
		if bits.Text(l) != x.message || cost != x.cost || margin != x.margin || e != api.OK || f != api.OK {
			t.Error("Decode:", x, bits.Text(l), cost, margin, e, f)
		}
	}
	if l, cost, e := soft.Decode(trellis.Short(), row(1+1i, 1+1i)); len(l) != 0 || cost != 12 || e != api.OK {
		t.Error("Decode of no bits:", l, cost, e)
	}
	if x, e := soft.Margin(trellis.Short(), row(1+1i, 1+1i)); x != 0 || e != api.ErrNone {
		t.Error("Margin of one message:", x, e)
	}
	full := slices.Repeat(row(1024-1024i), soft.MaxRow)
	if l, _, e := soft.Decode(trellis.Long(), full); len(l) != soft.MaxRow-6 || e != api.OK {
		t.Error("the longest Decode:", e)
	}
}

func TestP23_3Ends(t *testing.T) {
	if l, e := soft.Ends(trellis.Short(), nil); e != api.OK || !slices.Equal(l, []float64{0, inf, inf, inf}) {
		t.Error("Ends of none:", l, e)
	}
	if l, e := soft.Ends(trellis.Short(), row(1+1i)); e != api.OK || !slices.Equal(l, []float64{6, inf, -2, inf}) {
		t.Error("Ends:", l, e)
	}
}

func TestP23_4Nearest(t *testing.T) {
	r := rand.New(rand.NewSource(1))
	for range 400 {
		c := codes[r.Intn(len(codes))]
		n := r.Intn(7)
		l := coarse(r, n+c.Length-1)
		got, cost, e := soft.Decode(c, l)
		var best []bool
		least, next := inf, inf
		for _, message := range messages(n) {
			own, _ := soft.Path(c, message, l)
			if own < least {
				best, least, next = message, own, least
			} else {
				next = min(next, own)
			}
		}
		if !slices.Equal(got, best) || cost != least || e != api.OK {
			t.Fatal("nearest:", c, l, got, cost, best, least)
		}
		if margin, e := soft.Margin(c, l); n > 0 && (margin != next-least || margin < 0 || e != api.OK) {
			t.Fatal("Margin:", c, l, margin, next-least)
		}
	}
}

func TestP23_5WithinHalf(t *testing.T) {
	r := rand.New(rand.NewSource(2))
	for range 200 {
		c := []trellis.Code{trellis.Short(), trellis.Long(), codes[2]}[r.Intn(3)]
		message := some(r, 1+r.Intn(50))
		sent, _ := soft.Send(c, message)
		l := make([]api.Sample, len(sent))
		for i, z := range sent {
			l[i].V = z + complex(float64(r.Intn(2)*8190-4095)/4096, float64(r.Intn(8191)-4095)/4096)
		}
		free, _ := c.Free()
		for _, at := range r.Perm(len(l))[:min(len(l), (free+1)/2-1)] {
			l[at] = lost
		}
		got, _, e := soft.Decode(c, l)
		margin, f := soft.Margin(c, l)
		if e != api.OK || f != api.OK || !slices.Equal(got, message) || !(margin > 0) {
			t.Fatal("within half the distance:", c, e, f, margin)
		}
	}
}

func TestP23_6What(t *testing.T) {
	r := rand.New(rand.NewSource(3))
	for range 300 {
		c := codes[r.Intn(len(codes))]
		n := r.Intn(7)
		l := coarse(r, n+c.Length-1)
		one, two := r.Intn(2) == 1, r.Intn(2) == 1
		s := l[0]
		a, _ := soft.Cost(one, two, s)
		s.V = complex(real(s.V), -imag(s.V))
		if b, _ := soft.Cost(one, !two, s); a != b {
			t.Fatal("the conjugate:", s)
		}
		message, there := some(r, n), 0
		wide := slices.Clone(l)
		for i := range wide {
			if !wide[i].Lost {
				wide[i].V *= 2
				there++
			}
		}
		x, _ := soft.Path(c, message, l)
		if y, _ := soft.Path(c, message, wide); y != 2*x-float64(2*there) {
			t.Fatal("twice as far:", x, y, there)
		}
		ends, _ := soft.Ends(c, l)
		before, _ := soft.Ends(c, l[:len(l)-1])
		_, cost, _ := soft.Decode(c, l)
		if slices.Min(ends) > cost {
			t.Fatal("the least of Ends:", ends, cost)
		}
		for state, x := range ends {
			from, _ := c.From(state)
			want := inf
			for _, ahead := range from {
				_, one, two, _ := c.Step(ahead, state >= len(ends)/2)
				own, _ := soft.Cost(one, two, l[len(l)-1])
				want = min(want, before[ahead]+own)
			}
			if x != want {
				t.Fatal("one more step:", state, x, want)
			}
		}
	}
}
