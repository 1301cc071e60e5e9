package shore_test

import (
	"math"
	"math/rand"
	"slices"
	"strconv"
	"strings"
	"testing"

	"foghorn/again"
	"foghorn/api"
	"foghorn/block"
	"foghorn/frame"
	"foghorn/grid"
	"foghorn/plane"
	"foghorn/pulse"
	"foghorn/shore"
	"foghorn/strait"
	"foghorn/train"
)

type (
	P = shore.Plan
	Z = []complex128
)

var (
	spike = api.Pulse{Rate: 1, Taps: []float64{1}}
	small = P{Block: block.Plan{Size: 4, Taps: 1, Pair: 1, Block: 32, Words: 1, Length: 60, Checks: 4, Pulse: spike}, Window: 1, Body: 4, Wait: 3, Order: 1, Echo: 1}
	plain = api.Strait{Rate: 1, Taps: Z{1}}
)

func changed(f func(p *P)) P {
	p := small
	f(&p)
	return p
}

func station(t *testing.T, p P, side int) *shore.Station {
	p.Side = side
	s, e := shore.New(p)
	if e != api.OK {
		t.Fatal("New:", p, e)
	}
	return s
}

func TestP31_1Check(t *testing.T) {
	bad := small.Block
	bad.Pulse = api.Pulse{Rate: 1, Taps: []float64{2}}
	for i, c := range []struct {
		p P
		e api.Errno
	}{
		{small, api.OK}, {changed(func(p *P) { p.Side = 1 }), api.OK}, {changed(func(p *P) { p.Window = 2 }), api.ErrArg}, {changed(func(p *P) { p.Side = 2 }), api.ErrArg}, {changed(func(p *P) { p.Side = -1 }), api.ErrArg}, {changed(func(p *P) { p.Wait = 0 }), api.ErrArg}, {changed(func(p *P) { p.Wait = math.MaxInt64 }), api.OK},
		{changed(func(p *P) { p.Renew = 2 }), api.ErrArg}, {changed(func(p *P) { p.Renew = -3 }), api.ErrArg}, {changed(func(p *P) { p.Renew = 3 }), api.OK}, {changed(func(p *P) { p.Body = 16 }), api.OK}, {changed(func(p *P) { p.Body = 0 }), api.OK}, {changed(func(p *P) { p.Body = 17 }), api.ErrArg}, {changed(func(p *P) { p.Body = -1 }), api.ErrArg}, {changed(func(p *P) { p.Window = 0 }), api.ErrArg},
		{changed(func(p *P) { p.Order = 0 }), api.ErrArg}, {changed(func(p *P) { p.Order = 9 }), api.ErrArg}, {changed(func(p *P) { p.Echo = 65 }), api.ErrArg}, {changed(func(p *P) { p.Echo = -1 }), api.ErrArg}, {changed(func(p *P) { p.Echo = 64 }), api.OK}, {changed(func(p *P) { p.Block = bad }), api.ErrTaps}, {changed(func(p *P) { p.Block, p.Side = bad, 9 }), api.ErrTaps}, {P{}, api.ErrArg},
		{changed(func(p *P) { p.Window, p.Body = math.MaxInt, math.MaxInt }), api.ErrArg},
	} {
		s, e := shore.New(c.p)
		if f := c.p.Check(); e != c.e || f != c.e || (s == nil) != (e != api.OK) {
			t.Error("Check:", i, e, f)
		}
	}
	var none *shore.Station
	_, e1 := none.Say()
	_, e2 := none.Hear([]api.Sample{{V: 0.001}})
	_, _, e3 := shore.Exchange(none, none, api.Strait{}, api.Strait{}, nil, nil, nil, nil)
	_, _, e4 := shore.Exchange(station(t, small, 0), nil, api.Strait{}, api.Strait{}, nil, nil, nil, nil)
	for _, e := range []api.Errno{e1, e2, e3, e4, none.Offer("too long a message")} {
		if e != api.ErrNil {
			t.Error("a nil station:", e)
		}
	}
	if none.Round() != 0 || none.Left() != 0 || none.Handed() != 0 || len(none.Echo()) != 0 {
		t.Error("a nil station")
	}
	var made shore.Station
	made.Offer("")
	made.Say()
	made.Hear(nil)
	shore.Exchange(&made, new(shore.Station), plain, plain, nil, nil, nil, nil)
	made.Left()
	made.Handed()
	s := station(t, small, 0)
	for range again.MaxQueue {
		s.Offer("x")
	}
	if e := s.Offer("x"); e != api.ErrFull || s.Left() != again.MaxQueue {
		t.Error("Offer to a full one:", e)
	}
	if e := s.Offer("hello"); e != api.ErrArg {
		t.Error("Offer of too long a one:", e)
	}
}

// silence is what comes in where nothing is said.
var silence = make([]api.Sample, 40)

func TestP31_2Said(t *testing.T) {
	s := station(t, changed(func(p *P) { p.Renew = 4 }), 1)
	s.Offer("hi")
	own, _ := train.Plan{Order: 1, Rate: 1, Guard: 1}.Laid()
	packed, _ := frame.Pack(api.Frame{Kind: again.Data, Body: "hi"})
	talk, _ := small.Block.Send(packed)
	for round, want := range []Z{nil, own, talk, nil, nil, own, talk} {
		if _, e := s.Hear(silence); e != api.ErrDone {
			t.Error("Hear ahead of Say:", e)
		}
		row, e := s.Say()
		if e != api.OK || !slices.Equal(row, want) || s.Round() != round {
			t.Error("Say:", round, len(row), e)
		}
		for i := range row {
			row[i] = 99
		}
		if _, e := s.Say(); e != api.ErrDone {
			t.Error("Say twice:", e)
		}
		if _, e := s.Hear([]api.Sample{{V: 0.001}}); e != api.ErrGrid || s.Round() != round {
			t.Error("Hear off the grid:", e)
		}
		if l, e := s.Hear(silence); len(l) != 0 || e != api.OK || s.Round() != round+1 {
			t.Error("Hear:", l, e)
		}
	}
	if s.Left() != 1 {
		t.Error("Left:", s.Left())
	}
}

func TestP31_3Heard(t *testing.T) {
	p := changed(func(p *P) { p.Echo, p.Block.Length, p.Block.Words = 0, 100, 2 })
	s := station(t, p, 0)
	frames := []api.Frame{{Kind: again.Data, Number: 1, Body: "late"}, {Kind: 9, Body: "?"}, {Kind: again.Answer, Body: "short"}, {Kind: again.Data, More: true}, {Kind: again.Data, Number: 0, Body: "soon"}}
	p.Window = 2
	two := station(t, p, 0)
	var message strings.Builder
	for _, f := range frames {
		packed, _ := frame.Pack(f)
		message.WriteString("noise" + packed)
	}
	row, e := p.Block.Send(message.String())
	if e != api.OK {
		t.Fatal("Send:", e)
	}
	l, _ := grid.Door(row)
	for i, x := range []struct {
		s    *shore.Station
		want []string
		next uint8
	}{{s, []string{"soon"}, 1}, {two, []string{"soon", "late"}, 2}} {
		x.s.Say()
		if got, e := x.s.Hear(l); e != api.OK || !slices.Equal(got, x.want) || x.s.Handed() != len(x.want) {
			t.Error("Hear:", i, got, e)
		}
		x.s.Offer("own")
		said, e := x.s.Say()
		in, _ := grid.Door(said)
		heard, f := p.Block.Receive(in)
		var kinds []uint8
		for at, f := range frame.Scan(heard) {
			kinds = append(kinds, f.Kind)
			if at == 0 && f.Number != x.next {
				t.Error("the answer:", f)
			}
		}
		if e != api.OK || f != api.OK || !slices.Equal(kinds, []uint8{again.Answer, again.Data}) {
			t.Error("said:", i, kinds, e, f)
		}
		x.s.Hear(silence)
		if said, _ := x.s.Say(); len(said) != 0 {
			t.Error("an answer said twice")
		}
	}
}

func TestP31_3Examples(t *testing.T) {
	a, b := station(t, small, 0), station(t, small, 1)
	s := api.Strait{Rate: 1, Taps: Z{1}, Echo: Z{0.5}}
	round := func(toA, toB []string) {
		t.Helper()
		x, y, e := shore.Exchange(a, b, s, s, nil, nil, nil, nil)
		if e != api.OK || !slices.Equal(x, toA) || !slices.Equal(y, toB) {
			t.Error("Exchange:", x, y, e)
		}
	}
	round(nil, nil)
	if l := a.Echo(); !slices.Equal(l, Z{0.5}) || len(b.Echo()) != 0 {
		t.Error("Echo:", l)
	} else {
		l[0] = 9
	}
	round(nil, nil)
	if !slices.Equal(a.Echo(), Z{0.5}) || !slices.Equal(b.Echo(), Z{0.5}) {
		t.Error("Echo:", a.Echo(), b.Echo())
	}
	if e := a.Offer("hi"); e != api.OK || a.Left() != 1 {
		t.Error("Offer:", e)
	}
	round(nil, []string{"hi"})
	round(nil, nil)
	if a.Left() != 0 || b.Handed() != 1 || a.Round() != 4 || b.Round() != 4 {
		t.Error("behind it:", a.Left(), b.Handed(), a.Round())
	}
}

func TestP31_3Own(t *testing.T) {
	p := changed(func(p *P) { p.Block.Pulse.Taps = []float64{1} })
	a, b := station(t, p, 0), station(t, p, 1)
	p.Block.Pulse.Taps[0] = 0.5 // what was handed in is not kept
	s := api.Strait{Rate: 1, Taps: Z{1}, Echo: Z{1}}
	for range 2 {
		if _, _, e := shore.Exchange(a, b, s, s, nil, nil, nil, nil); e != api.OK {
			t.Fatal("Exchange:", e)
		}
	}
	a.Offer("a")
	b.Offer("b")
	row, _ := a.Say()
	other, _ := b.Say()
	l, e := strait.Arrive(s, other, row, nil, nil, 400)
	for i := range row {
		row[i] = 64 // nor is what was handed out
	}
	if got, f := a.Hear(l); !slices.Equal(got, []string{"b"}) || e != api.OK || f != api.OK {
		t.Error("Hear without what was said:", got, e, f)
	}
}

func TestP31_4Exchange(t *testing.T) {
	a, b := station(t, small, 0), station(t, small, 1)
	bad, burst := api.Strait{Rate: 1}, []api.Burst{{At: -1}}
	for i, c := range []struct {
		ab, ba api.Strait
		da, db Z
		la, lb []api.Burst
		e      api.Errno
	}{{bad, plain, nil, nil, nil, nil, api.ErrTaps}, {api.Strait{}, bad, nil, nil, nil, nil, api.ErrTaps}, {bad, api.Strait{}, nil, nil, nil, nil, api.ErrArg}, {plain, plain, Z{0.001}, nil, nil, burst, api.ErrGrid}, {plain, plain, nil, Z{0.001}, burst, nil, api.ErrArg}, {plain, plain, nil, Z{0.001}, nil, nil, api.ErrGrid}} {
		if x, y, e := shore.Exchange(a, b, c.ab, c.ba, c.da, c.db, c.la, c.lb); x != nil || y != nil || e != c.e || a.Round() != 0 {
			t.Error("Exchange:", i, e)
		}
	}
	if _, _, e := shore.Exchange(a, a, bad, bad, nil, nil, nil, nil); e != api.ErrArg {
		t.Error("Exchange of one:", e)
	}
	a.Say()
	if _, _, e := shore.Exchange(a, b, bad, bad, nil, nil, nil, nil); e != api.ErrDone {
		t.Error("Exchange behind Say:", e)
	}
	if _, e := b.Say(); e != api.OK {
		t.Error("Say:", e)
	}
	a, b = station(t, changed(func(p *P) { p.Echo = 0 }), 0), station(t, changed(func(p *P) { p.Echo = 0 }), 1)
	a.Offer("hi")
	slow := api.Strait{Rate: 1, Delay: 700, Taps: Z{1}}
	if _, y, e := shore.Exchange(a, b, slow, plain, nil, nil, nil, nil); !slices.Equal(y, []string{"hi"}) || e != api.OK {
		t.Error("all of a late row comes in:", y, e)
	}
	if _, _, e := shore.Exchange(a, b, plain, slow, nil, nil, nil, nil); a.Left() != 0 || e != api.OK {
		t.Error("a late answer:", a.Left(), e)
	}
	late := station(t, changed(func(p *P) { p.Echo = 0 }), 0)
	far := station(t, changed(func(p *P) { p.Echo = 0 }), 1)
	late.Offer("x")
	if _, y, e := shore.Exchange(late, far, api.Strait{Rate: 1, Delay: api.MaxSamples, Taps: Z{1}}, plain, nil, nil, nil, nil); len(y) != 0 || e != api.OK || late.Round() != 1 {
		t.Error("a row that never arrives:", y, e)
	}
}

// line is a strait at random with an echo, within the bounds.
func line(r *rand.Rand, p P, echo int) (api.Strait, float64) {
	size := []float64{1, 0.5, 0.25}[r.Intn(3)]
	s := api.Strait{Rate: p.Block.Pulse.Rate, Delay: r.Intn(30), Taps: Z{plane.Turn(complex(size, 0), r.Intn(4))}}
	for range r.Intn(p.Block.Taps) {
		s.Taps = append(s.Taps, complex(float64(r.Intn(33)-16)/64, float64(r.Intn(33)-16)/64))
	}
	for range echo {
		s.Echo = append(s.Echo, complex(float64(r.Intn(33)-16)/64, float64(r.Intn(33)-16)/64))
	}
	return s, size
}

func disturbance(r *rand.Rand, size float64) Z {
	edge := int(size*4096) - 1
	out := make(Z, 1500)
	for i := range out {
		out[i] = complex(float64(r.Intn(2*edge+1)-edge)/4096, float64(r.Intn(2*edge+1)-edge)/4096)
	}
	return out
}

func TestP31_5And7OnceInOrder(t *testing.T) {
	r := rand.New(rand.NewSource(1))
	for range 25 {
		shape, _ := pulse.Named([]string{"spike", "tent", "soft"}[r.Intn(3)], 2)
		p := P{Block: block.Plan{Size: []int{4, 16, 32, 64}[r.Intn(4)], Taps: 3, Pair: 1 + r.Intn(3), Block: 16 + r.Intn(40), Words: 2, Length: 70, Checks: 8, Pulse: shape}, Window: 1 + r.Intn(4), Body: 8, Wait: int64(1 + r.Intn(4)), Order: 1 + r.Intn(4), Echo: 1 + r.Intn(3), Renew: []int{0, 0, 3, 7}[r.Intn(4)]}
		a, b := station(t, p, 0), station(t, p, 1)
		ab, sizeAB := line(r, p, r.Intn(p.Echo+1))
		ba, sizeBA := line(r, p, r.Intn(p.Echo+1))
		places, _ := p.Block.Places()
		var fromA, fromB, toA, toB []string
		for i := range 12 {
			fromA, fromB = append(fromA, "a"+strconv.Itoa(i)), append(fromB, strings.Repeat("b", i%8)+strconv.Itoa(i%10))
			a.Offer(fromA[i])
			b.Offer(fromB[i])
		}
		for round := 0; a.Left()+b.Left() > 0; round++ {
			k := round
			if p.Renew != 0 {
				k %= p.Renew
			}
			var la, lb []api.Burst
			if k > 1 && round < 60 {
				for range r.Intn(3) {
					la = append(la, api.Burst{At: places.Blocks[0] + ba.Delay + r.Intn(300), N: r.Intn(200), Lost: true})
					lb = append(lb, api.Burst{At: places.Blocks[0] + ab.Delay + r.Intn(300), N: r.Intn(200), Lost: true})
				}
			}
			x, y, e := shore.Exchange(a, b, ab, ba, disturbance(r, sizeBA), disturbance(r, sizeAB), la, lb)
			toA, toB = append(toA, x...), append(toB, y...)
			if e != api.OK || round > 300 {
				t.Fatal("Exchange:", p, round, e)
			}
			for s, own := range map[*shore.Station]Z{a: ba.Echo, b: ab.Echo} {
				want := append(slices.Clone(own), make(Z, p.Echo-len(own))...)
				if round > 1 && !slices.Equal(s.Echo(), want) {
					t.Fatal("learnt:", s.Echo(), want)
				}
			}
		}
		if !slices.Equal(toA, fromB) || !slices.Equal(toB, fromA) {
			t.Fatal("once, in order:", p, toA, toB)
		}
	}
}

func TestP31_6BothAtOnce(t *testing.T) {
	r := rand.New(rand.NewSource(2))
	for range 15 {
		p := small
		p.Block.Taps, p.Echo = 2, 2
		alone := p
		alone.Echo = 0
		ab, sizeAB := line(r, p, 2)
		ba, sizeBA := line(r, p, 2)
		deafAB, deafBA := ab, ba
		deafAB.Echo, deafBA.Echo = nil, nil
		a, b, c, d := station(t, p, 0), station(t, p, 1), station(t, alone, 0), station(t, alone, 1)
		da, db := disturbance(r, sizeBA), disturbance(r, sizeAB)
		for range 2 {
			if _, _, e := shore.Exchange(a, b, ab, ba, da, db, nil, nil); e != api.OK {
				t.Fatal("Exchange:", e)
			}
		}
		for round := range 12 {
			for _, s := range []*shore.Station{a, c} {
				s.Offer("a" + strconv.Itoa(round))
			}
			for _, s := range []*shore.Station{b, d} {
				s.Offer("b" + strconv.Itoa(round))
			}
			lost := []api.Burst{{At: 40 + ab.Delay, N: r.Intn(60) * (round % 2), Lost: true}}
			x1, y1, e := shore.Exchange(a, b, ab, ba, da, db, nil, lost)
			x2, y2, f := shore.Exchange(c, d, deafAB, deafBA, da, db, nil, lost)
			if e != api.OK || f != api.OK || !slices.Equal(x1, x2) || !slices.Equal(y1, y2) || a.Left() != c.Left() {
				t.Fatal("both at once:", round, x1, x2, y1, y2, e, f)
			}
		}
	}
}
