package block_test

import (
	"math"
	"math/rand"
	"reflect"
	"slices"
	"strings"
	"testing"

	"foghorn/api"
	"foghorn/block"
	"foghorn/grid"
	"foghorn/hunt"
	"foghorn/mend"
	"foghorn/plane"
	"foghorn/pulse"
	"foghorn/strait"
	"foghorn/sums"
	"foghorn/weave"
)

type P = block.Plan

var (
	nan   = math.NaN()
	spike = api.Pulse{Rate: 1, Taps: []float64{1}}
	small = P{4, 1, 1, 8, 1, 10, 2, spike}
)

// door lets a row in, with so many samples of silence ahead.
func door(l []complex128, ahead int) []api.Sample {
	out, _ := grid.Door(append(make([]complex128, ahead), l...))
	return out
}

func sent(t *testing.T, p P, message string) []complex128 {
	l, e := p.Send(message)
	if e != api.OK {
		t.Fatal("Send:", p, e)
	}
	return l
}

// some is a plan at random, and a message that it has room for.
func some(r *rand.Rand) (P, string) {
	names := []struct {
		name string
		rate int
	}{{"spike", 1}, {"spike", 3}, {"tent", 2}, {"tent", 4}, {"soft", 2}, {"box", 2}, {"box", 3}}
	for {
		n := names[r.Intn(len(names))]
		shape, _ := pulse.Named(n.name, n.rate)
		p := P{Size: []int{4, 16, 32, 64, 128, 256}[r.Intn(6)], Taps: 1 + r.Intn(4), Pair: 1 + r.Intn(8), Block: 1 + r.Intn(30), Words: 1 + r.Intn(4), Length: 3 + r.Intn(40), Checks: 2 * (1 + r.Intn(4)), Pulse: shape}
		room, e := p.Room()
		if e != api.OK {
			continue
		}
		message := make([]byte, r.Intn(room+1))
		r.Read(message)
		return p, string(message)
	}
}

// line is a strait at random whose taps a plan finds.
func line(r *rand.Rand, p P) (s api.Strait, size float64) {
	size = []float64{1, 0.5, 0.25}[r.Intn(3)]
	taps := []complex128{plane.Turn(complex(size, 0), r.Intn(4))}
	for range r.Intn(p.Taps) {
		taps = append(taps, complex(float64(r.Intn(33)-16)/64, float64(r.Intn(33)-16)/64))
	}
	return api.Strait{Rate: p.Pulse.Rate, Delay: r.Intn(50), Taps: taps}, size
}

func disturbance(r *rand.Rand, n int, size float64) []complex128 {
	edge := int(size*4096) - 1
	out := make([]complex128, n)
	for i := range out {
		out[i] = complex(float64(r.Intn(2*edge+1)-edge)/4096, float64(r.Intn(2*edge+1)-edge)/4096)
	}
	return out
}

func TestP26_1Check(t *testing.T) {
	change := func(f func(p *P)) P {
		p := small
		f(&p)
		return p
	}
	bad := api.Pulse{Rate: 1, Taps: []float64{2}}
	for i, c := range []struct {
		p P
		e api.Errno
	}{
		{small, api.OK}, {P{}, api.ErrArg}, {change(func(p *P) { p.Size = 8 }), api.ErrArg}, {change(func(p *P) { p.Taps = 0 }), api.ErrArg}, {change(func(p *P) { p.Taps = 65 }), api.ErrArg}, {change(func(p *P) { p.Taps = 64 }), api.OK},
		{change(func(p *P) { p.Pair = 0 }), api.ErrArg}, {change(func(p *P) { p.Pair = 9 }), api.ErrArg}, {change(func(p *P) { p.Pair = 8 }), api.OK}, {change(func(p *P) { p.Block = 0 }), api.ErrArg}, {change(func(p *P) { p.Block = 1 }), api.OK}, {change(func(p *P) { p.Block = 4097 }), api.ErrArg}, {change(func(p *P) { p.Block = 4096 }), api.OK},
		{change(func(p *P) { p.Words = 0 }), api.ErrArg}, {change(func(p *P) { p.Words = 256 }), api.ErrArg}, {change(func(p *P) { p.Length = 7 }), api.ErrArg}, {change(func(p *P) { p.Length = 256 }), api.ErrArg}, {change(func(p *P) { p.Checks = 3 }), api.ErrArg}, {change(func(p *P) { p.Checks = 0 }), api.ErrArg}, {change(func(p *P) { p.Checks = 4 }), api.OK}, {change(func(p *P) { p.Length = 8 }), api.OK},
		{change(func(p *P) { p.Pulse = bad }), api.ErrTaps}, {change(func(p *P) { p.Pulse = api.Pulse{} }), api.ErrArg}, {change(func(p *P) { p.Pulse, p.Length = bad, 7 }), api.ErrArg}, {change(func(p *P) { p.Words, p.Length, p.Block = 255, 255, 1 }), api.ErrArg},
		{change(func(p *P) { p.Words, p.Length, p.Block, p.Size = 255, 255, 4096, 256 }), api.ErrArg}, {change(func(p *P) { p.Words, p.Length, p.Block, p.Size = 240, 255, 4096, 256 }), api.OK}, {change(func(p *P) { p.Words, p.Length, p.Checks = math.MaxInt, math.MaxInt, math.MinInt }), api.ErrArg},
	} {
		coded := strings.Repeat("x", max(0, min(99, c.p.Words*c.p.Length)))
		_, e1 := c.p.Room()
		_, e2 := c.p.Places()
		_, e3 := c.p.Code("")
		_, e4 := c.p.Send("")
		for k, e := range []api.Errno{c.p.Check(), e1, e2, e3, e4} {
			if e != c.e {
				t.Error("Check:", i, k, e)
			}
		}
		if c.e == api.OK {
			continue
		}
		_, e1 = c.p.Points(coded)
		h, e2 := c.p.Hear(door([]complex128{0.001}, 0))
		_, _, e3 = c.p.Decode(coded, []int{-1})
		_, e4 = c.p.Receive(nil)
		for k, e := range []api.Errno{e1, e2, e3, e4} {
			if e != c.e || !reflect.DeepEqual(h, block.Heard{}) {
				t.Error("Check:", i, k, e)
			}
		}
	}
}

func TestP26_1Send(t *testing.T) {
	if n, e := small.Room(); n != 2 || e != api.OK {
		t.Error("Room:", n, e)
	}
	if l, e := small.Places(); !reflect.DeepEqual(l, api.Places{Marker: 3, Train: [2]int{7, 12}, Blocks: []int{17, 52}, Length: 87}) || e != api.OK {
		t.Error("Places:", l, e)
	}
	coded, e := small.Code("hi")
	if data := sums.Sealed("\x00\x02hi"); len(coded) != 10 || coded[:8] != data || e != api.OK {
		t.Errorf("Code: %x %v", coded, e)
	}
	l, e := small.Points(coded)
	if len(l) != 2 || len(l[0]) != 32 || len(l[1]) != 32 || e != api.OK {
		t.Error("Points:", len(l), e)
	}
	row := sent(t, small, "hi")
	for at, want := range map[int]complex128{2: 0, 3: 128, 4: 0, 7: 128, 8: 128, 12: 128, 13: -128, 16: 0, 17: l[0][0], 48: l[0][31], 49: 0, 52: l[1][0], 86: 0} {
		if row[at] != want || len(row) != 87 {
			t.Error("Send:", at, row[at], want)
		}
	}
	for _, f := range []func() (int, api.Errno){func() (int, api.Errno) { s, e := small.Code("abc"); return len(s), e }, func() (int, api.Errno) { l, e := small.Send("abc"); return len(l), e }, func() (int, api.Errno) { l, e := small.Points(coded[1:]); return len(l), e }, func() (int, api.Errno) { l, e := small.Points(coded + "x"); return len(l), e }} {
		if n, e := f(); n != 0 || e != api.ErrArg {
			t.Error("refused:", n, e)
		}
	}
	big := P{256, 1, 1, 4096, 240, 255, 2, spike}
	if n, e := big.Room(); n != api.MaxMessage || e != api.OK {
		t.Error("the greatest Room:", n, e)
	}
	long := strings.Repeat("foghorn!", api.MaxMessage/8)
	if m, e := big.Receive(door(sent(t, big, long), 0)); m != long || e != api.OK {
		t.Error("the longest message:", len(m), e)
	}
	for _, size := range []int{32, 64, 128} { // a block's last point goes past the greatest row of bits
		p := P{size, 1, 1, 4096, 16, 255, 2, spike}
		if m, e := p.Receive(door(sent(t, p, long[:3000]), 7)); m != long[:3000] || e != api.OK {
			t.Error("the greatest block:", size, len(m), e)
		}
	}
}

func TestP26_2Hear(t *testing.T) {
	row := door(sent(t, small, "hi"), 5)
	coded, _ := small.Code("hi")
	h, e := small.Hear(row)
	if !reflect.DeepEqual(h, block.Heard{Found: api.Found{At: 8, Size: 1}, Taps: []complex128{1}, Coded: coded}) || e != api.OK {
		t.Error("Hear:", h, e)
	}
	short, e := small.Hear(row[:61])
	if short.Coded != coded[:8]+coded[8:9]+"\x00" || !slices.Equal(short.Lost, []int{9}) || e != api.OK {
		t.Errorf("Hear of a row cut off: %x %v %v", short.Coded, short.Lost, e)
	}
	torn := slices.Clone(row)
	torn[22+5] = api.Sample{Lost: true}
	h, e = small.Hear(torn)
	if want := coded[:1] + strings.Repeat("\x00", 7) + coded[8:]; h.Coded != want || !slices.Equal(h.Lost, []int{1, 2, 3, 4, 5, 6, 7}) || e != api.OK {
		t.Errorf("Hear of a torn one: %x %v %v", h.Coded, h.Lost, e)
	}
	for _, c := range []struct {
		l []api.Sample
		e api.Errno
	}{{nil, api.ErrLost}, {make([]api.Sample, 99), api.ErrLost}, {[]api.Sample{{V: 0.001}}, api.ErrGrid}, {make([]api.Sample, api.MaxSamples+1), api.ErrArg}, {row[:9], api.ErrLost}, {slices.Concat(row[:12], []api.Sample{{Lost: true}}, row[13:]), api.ErrLost}, {[]api.Sample{{V: 128}, {}, {}, {}, {V: 1024}, {V: 1024}}, api.ErrLost}} {
		if h, e := small.Hear(c.l); !reflect.DeepEqual(h, block.Heard{}) || e != c.e {
			t.Error("Hear:", len(c.l), h, e)
		}
		if m, e := small.Receive(c.l); m != "" || e != c.e {
			t.Error("Receive:", len(c.l), m, e)
		}
	}
}

func TestP26_2Decode(t *testing.T) {
	coded, _ := small.Code("hi")
	wrong := "?" + coded[1:]
	for _, c := range []struct {
		coded string
		lost  []int
		m     string
		wrong int
		e     api.Errno
	}{
		{coded, nil, "hi", 0, api.OK}, {wrong, nil, "hi", 1, api.OK}, {"??" + coded[2:], []int{1, 0}, "hi", 0, api.OK}, {"??" + coded[2:], nil, "", 0, api.ErrLost}, {coded, []int{0, 1, 2}, "", 0, api.ErrLost},
		{coded[1:], nil, "", 0, api.ErrArg}, {coded, []int{10}, "", 0, api.ErrArg}, {coded, []int{-1}, "", 0, api.ErrArg}, {coded, []int{1, 1}, "", 0, api.ErrArg}, {"", nil, "", 0, api.ErrArg},
	} {
		if m, n, e := small.Decode(c.coded, c.lost); m != c.m || n != c.wrong || e != c.e {
			t.Errorf("Decode: %x %v: %q %d %v", c.coded, c.lost, m, n, e)
		}
	}
	encoded := func(data string) string {
		s, _ := weave.In([]string{mended(t, data)})
		return s
	}
	for _, bare := range []string{"\x00\x03hi", "\x00\x01hi", "\xff\xffhi", "\x00\x00\x00\x01"} {
		if m, n, e := small.Decode(encoded(sums.Sealed(bare)), nil); m != "" || n != 0 || e != api.ErrForm {
			t.Errorf("Decode: %x: %q %d %v", bare, m, n, e)
		}
	}
	if m, _, e := small.Decode(encoded("\x00\x02hi\x00\x00\x00\x00"), nil); m != "" || e != api.ErrForm {
		t.Error("Decode without the sum:", m, e)
	}
	if m, _, e := small.Decode(encoded(sums.Sealed("\x00\x01h\x00")), nil); m != "h" || e != api.OK {
		t.Error("Decode of a shorter one:", m, e)
	}
}

// mended is the codeword with eight bytes of data, and two checks that are sought as lost.
func mended(t *testing.T, data string) string {
	m, e := mend.Mend(data+"\x00\x00", 2, []int{8, 9})
	if e != api.OK {
		t.Fatal("Mend:", e)
	}
	return m.Word
}

func TestP26_3Back(t *testing.T) {
	r := rand.New(rand.NewSource(1))
	for range 60 {
		p, message := some(r)
		row := sent(t, p, message)
		l := door(row, r.Intn(40))
		for range r.Intn(9) {
			l = append(l, api.Sample{V: complex(float64(r.Intn(2000)-1000), 0), Lost: false})
		}
		if m, e := p.Receive(l); m != message || e != api.OK {
			t.Fatal("Receive of Send:", p, e)
		}
		n := r.Intn(4)
		for i := range l {
			l[i].V = plane.Turn(l[i].V, n)
		}
		if m, e := p.Receive(l); m != message || e != api.OK {
			t.Fatal("turned:", p, n, e)
		}
		coded, _ := p.Code(message)
		b, lost, wrong := []byte(coded), []int(nil), 0
		for word := range p.Words {
			gone := r.Intn(p.Checks + 1)
			for k, at := range r.Perm(p.Length)[:min(p.Length, gone+(p.Checks-gone)/2)] {
				place, _ := weave.Place(word, at, p.Words, p.Length)
				if k < gone {
					lost = append(lost, place)
					b[place] = byte(r.Intn(256))
				} else {
					b[place] ^= byte(1 + r.Intn(255))
					wrong++
				}
			}
		}
		if m, n, e := p.Decode(string(b), lost); m != message || n != wrong || e != api.OK {
			t.Fatal("mended:", p, n, wrong, e)
		}
	}
}

func TestP26_4WithinReach(t *testing.T) {
	r := rand.New(rand.NewSource(2))
	for range 60 {
		p, message := some(r)
		row := sent(t, p, message)
		s, size := line(r, p)
		n := len(row) + s.Delay + p.Pulse.Rate*len(s.Taps)
		disturb := disturbance(r, n, size)
		l, e := strait.Arrive(s, row, nil, disturb, nil, n)
		h, f := p.Hear(l)
		coded, _ := p.Code(message)
		want := append(slices.Clone(s.Taps), make([]complex128, p.Taps-len(s.Taps))...)
		if e != api.OK || f != api.OK || !slices.Equal(h.Taps, want) || h.Coded != coded || len(h.Lost) != 0 {
			t.Fatal("within reach:", p, s, e, f)
		}
		if m, e := p.Receive(l); m != message || e != api.OK {
			t.Fatal("Receive:", p, s, e)
		}
		places, _ := p.Places()
		hit := r.Intn(len(places.Blocks))
		from := places.Blocks[hit] + s.Delay
		long, _ := pulse.Length(p.Pulse, len(first(t, p, coded)))
		at := from + r.Intn(long)
		burst := api.Burst{At: at, N: 1 + r.Intn(from+long-at), V: complex(float64(r.Intn(900)-450), nan), Lost: r.Intn(2) == 0}
		if r.Intn(2) == 0 {
			burst.V = complex(real(burst.V), 7)
		}
		l, _ = strait.Arrive(s, row, nil, disturb, []api.Burst{burst}, n)
		torn, e := p.Hear(l)
		if e != api.OK {
			t.Fatal("torn:", p, e)
		}
		for place := range len(coded) {
			other := place/p.Block != hit || (place%p.Block+1)*8 <= (at-from-p.Pulse.Fore+p.Pulse.Rate-1)/p.Pulse.Rate*bitsOf(p.Size)
			if other && (torn.Coded[place] != coded[place] || slices.Contains(torn.Lost, place)) {
				t.Fatal("another byte is told otherwise:", p, place, hit, at-from)
			}
		}
	}
}

func bitsOf(size int) int { return map[int]int{4: 2, 16: 4, 32: 5, 64: 6, 128: 7, 256: 8}[size] }

func first(t *testing.T, p P, coded string) []complex128 {
	l, e := p.Points(coded)
	if e != api.OK {
		t.Fatal("Points:", e)
	}
	return l[0]
}

func TestP26_5NeverAnother(t *testing.T) {
	r := rand.New(rand.NewSource(3))
	told := 0
	for range 300 {
		p, message := some(r)
		l := door(sent(t, p, message), 0)
		for range r.Intn(12) {
			at := r.Intn(len(l))
			l[at] = api.Sample{V: complex(float64(r.Intn(9)-4), float64(r.Intn(9)-4))}
			if r.Intn(3) == 0 {
				l[at] = api.Sample{Lost: true}
			}
		}
		h, e := p.Hear(l)
		if e != api.OK {
			continue
		}
		m, _, e := p.Decode(h.Coded, h.Lost)
		if e != api.OK {
			if m != "" {
				t.Fatal("told beside an error:", e)
			}
			continue
		}
		told++
		coded, _ := p.Code(m)
		words, _ := weave.Out(h.Coded, p.Words)
		codes, _ := weave.Out(coded, p.Words)
		marks, _ := weave.Marks(h.Lost, p.Words, p.Length)
		for i := range words {
			if ok, e := mend.Within(words[i], codes[i], p.Checks, marks[i]); !ok || e != api.OK {
				t.Fatal("another message:", p, i, e)
			}
		}
	}
	if told < 20 {
		t.Error("too few were told:", told)
	}
	if hunt.Marker != 128 {
		t.Error("the marker")
	}
}
