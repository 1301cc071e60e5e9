package console_test

import (
	"math/rand"
	"slices"
	"strconv"
	"strings"
	"testing"

	"foghorn/api"
	"foghorn/block"
	"foghorn/console"
	"foghorn/plane"
	"foghorn/points"
	"foghorn/pulse"
	"foghorn/strait"
)

// stream is a message on its way: a plan, a strait that it finds, a disturbance within its bounds.
type stream struct {
	plan    block.Plan
	message string
	row     []complex128
	over    api.Strait
	disturb []complex128
	n       int
}

func flowing(t *testing.T, r *rand.Rand) stream {
	names := [][2]int{{0, 1}, {0, 4}, {1, 2}, {2, 2}, {2, 4}, {3, 2}, {1, 3}}
	for {
		k := names[r.Intn(len(names))]
		shape, _ := pulse.Named([]string{"spike", "box", "tent", "soft"}[k[0]], k[1])
		p := block.Plan{Size: points.Sizes()[r.Intn(6)], Taps: 1 + r.Intn(4), Pair: 1 + r.Intn(4), Block: 1 + r.Intn(30), Words: 1 + r.Intn(5), Length: 10 + r.Intn(40), Checks: 2 * (1 + r.Intn(4)), Pulse: shape}
		room, e := p.Room()
		if e != api.OK {
			continue
		}
		text := make([]byte, r.Intn(room+1))
		r.Read(text)
		row, e := p.Send(string(text))
		if e != api.OK {
			t.Fatal("Send:", p, e)
		}
		size := []float64{1, 0.5, 0.25}[r.Intn(3)]
		over := api.Strait{Rate: shape.Rate, Delay: r.Intn(20), Taps: []complex128{plane.Turn(complex(size, 0), r.Intn(4))}}
		for range r.Intn(p.Taps) {
			over.Taps = append(over.Taps, complex(float64(r.Intn(33)-16)/64, float64(r.Intn(33)-16)/64))
		}
		n := len(row) + over.Delay + over.Rate*len(over.Taps)
		disturb := make([]complex128, n)
		edge := int(size*4096) - 1
		for i := range disturb {
			disturb[i] = complex(float64(r.Intn(2*edge+1)-edge)/4096, float64(r.Intn(2*edge+1)-edge)/4096)
		}
		return stream{p, string(text), row, over, disturb, n}
	}
}

func (s stream) arrived(t *testing.T, l []api.Burst) []api.Sample {
	out, e := strait.Arrive(s.over, s.row, nil, s.disturb, l, s.n)
	if e != api.OK {
		t.Fatal("Arrive:", e)
	}
	return out
}

// borne says whether bursts that hit samples hit no more bytes than each codeword bears, as the document counts them.
func (s stream) borne(hit, lost []bool) bool {
	places, _ := s.plan.Places()
	w, _ := points.Bits(s.plan.Size)
	count := (8*s.plan.Block + w - 1) / w
	long, _ := pulse.Length(s.plan.Pulse, count)
	weights := make([]int, s.plan.Words)
	for i, at := range places.Blocks {
		at += s.over.Delay
		first := slices.Index(hit[at:at+long], true)
		if first < 0 {
			continue
		}
		erased := false
		kinds := make([]int, s.plan.Block) // 1: erased, 2: wrong
		for k := range count {
			own := s.plan.Pulse.Fore + k*s.plan.Pulse.Rate
			erased = erased || lost[at+own]
			for bit := k * w; bit < min((k+1)*w, 8*s.plan.Block) && own >= first; bit++ {
				if erased {
					kinds[bit/8] = 1
				} else if kinds[bit/8] == 0 {
					kinds[bit/8] = 2
				}
			}
		}
		for k, kind := range kinds {
			if place := i*s.plan.Block + k; place < s.plan.Words*s.plan.Length {
				weights[place%s.plan.Words] += kind
			}
		}
	}
	return slices.Max(weights) <= s.plan.Checks
}

func TestP1WithinReach(t *testing.T) {
	r := rand.New(rand.NewSource(1))
	borne, refused := 0, 0
	for range 400 {
		s := flowing(t, r)
		places, _ := s.plan.Places()
		guard := places.Marker
		long := places.Length - guard - places.Blocks[len(places.Blocks)-1]
		hit, lost := make([]bool, s.n), make([]bool, s.n)
		var l []api.Burst
		for range 1 + r.Intn(3) {
			at := places.Blocks[r.Intn(len(places.Blocks))] + s.over.Delay
			from := r.Intn(long)
			b := api.Burst{At: at + from, N: 1 + r.Intn(min(long-from, 12)), Lost: r.Intn(2) == 0, V: complex(float64(r.Intn(2000)-1000), float64(r.Intn(9)))}
			l = append(l, b)
			for m := b.At; m < b.At+b.N; m++ {
				hit[m], lost[m] = true, b.Lost
			}
		}
		got, e := s.plan.Receive(s.arrived(t, l))
		if s.borne(hit, lost) {
			borne++
			if got != s.message || e != api.OK {
				t.Fatal("within reach:", s.plan, s.over, l, e)
			}
		} else if e != api.OK {
			refused++
		}
		if e == api.OK && got != s.message {
			t.Fatal("another message:", s.plan, l)
		}
	}
	if borne < 50 || refused < 50 {
		t.Error("too few of a kind:", borne, refused)
	}
}

func TestP5NoOtherBlock(t *testing.T) {
	r := rand.New(rand.NewSource(2))
	for range 100 {
		s := flowing(t, r)
		places, _ := s.plan.Places()
		hit := r.Intn(len(places.Blocks))
		one := s.arrived(t, nil)
		two := slices.Clone(one)
		end := places.Length + s.over.Delay
		if hit+1 < len(places.Blocks) {
			end = places.Blocks[hit+1] + s.over.Delay
		}
		for m := places.Blocks[hit] + s.over.Delay; m < min(end, len(two)); m++ {
			two[m] = []api.Sample{{Lost: true}, {V: complex(float64(r.Intn(99)), 7)}, two[m]}[r.Intn(3)]
		}
		a, e := s.plan.Hear(one)
		b, f := s.plan.Hear(two)
		if e != api.OK || f != api.OK || a.Found != b.Found || !slices.Equal(a.Taps, b.Taps) {
			t.Fatal("Hear:", e, f)
		}
		for place := range len(a.Coded) {
			if place/s.plan.Block != hit && (a.Coded[place] != b.Coded[place] || slices.Contains(b.Lost, place)) {
				t.Fatal("another block:", s.plan, hit, place)
			}
		}
	}
}

func TestP6AnyQuarterAnyDelay(t *testing.T) {
	r := rand.New(rand.NewSource(3))
	halved := 0
	for range 100 {
		s := flowing(t, r)
		l := s.arrived(t, nil)
		n, d := r.Intn(4), r.Intn(30)
		other := append(make([]api.Sample, d), l...)
		for i := range other {
			other[i].V = plane.Turn(other[i].V, n)
		}
		if got, e := s.plan.Receive(other); got != s.message || e != api.OK {
			t.Fatal("turned, delayed:", s.plan, n, d, e)
		}
		half, e := strait.Halved(s.over)
		size, _, f := strait.First(half)
		if e != api.OK || f != api.OK || size < 0.25 {
			continue
		}
		halved++
		s.over, s.disturb = half, nil
		if got, e := s.plan.Receive(s.arrived(t, nil)); got != s.message || e != api.OK {
			t.Fatal("halved:", s.plan, s.over, e)
		}
	}
	if halved < 20 {
		t.Error("too few halved:", halved)
	}
}

func TestP32_3WhatWasSaid(t *testing.T) {
	r := rand.New(rand.NewSource(4))
	for range 8 {
		c := console.New()
		does(t, c, "pulse soft 2 | block 16 2 2 40 2 60 8 | link 3 8 2 2 2 0 | strait ab 4 0 32 9 -7 | strait ba 0 -64 0 5 5 | echo ab 16 3 | echo ba -8 0 0 20 | noise ab 2047 -2047 1 1 | noise ba 4095 0 0 -4095", "ok | ok 98 | ok | ok | ok | ok | ok | ok 2 | ok 2")
		does(t, c, "receive ab 6869 | receive ba - | open | rounds 2 | round | round", "ok 6869 | ok - | ok | ok 0 0 | ok 0 | ok 0")
		var fromA, fromB []string
		for i := range 9 {
			fromA, fromB = append(fromA, "b 61"+strconv.Itoa(10+i)), append(fromB, "a 62"+strconv.Itoa(10+i))
			c.Do("offer a" + fromA[i][1:])
			c.Do("offer b" + fromB[i][1:])
		}
		var got []string
		for range 6 {
			does(t, c, "burst ab "+strconv.Itoa(60+r.Intn(99))+" 70 lost", "ok 1")
			does(t, c, "burst ba "+strconv.Itoa(60+r.Intn(99))+" 70 lost", "ok 1")
			got = append(got, c.Do("round")[1:]...)
			c.Do("calm ab")
			c.Do("calm ba")
		}
		got = append(got, c.Do("rounds 100")[1:]...)
		pick := func(who string) (out []string) {
			for _, l := range got {
				if strings.HasPrefix(l, who) {
					out = append(out, l)
				}
			}
			return out
		}
		if !slices.Equal(pick("b"), fromA) || !slices.Equal(pick("a"), fromB) {
			t.Fatal("handed up:", got)
		}
		does(t, c, "rounds 9", "ok 0 0")
	}
}
