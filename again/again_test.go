package again_test

import (
	"math"
	"math/rand"
	"slices"
	"strconv"
	"strings"
	"testing"

	"foghorn/again"
	"foghorn/api"
)

// answer is an answer of a number, with some marks set.
func answer(number uint8, set ...int) api.Frame {
	body := make([]byte, 16)
	for _, i := range set {
		body[i/8] |= 0x80 >> (i % 8)
	}
	return api.Frame{Kind: again.Answer, Number: number, Body: string(body)}
}

func data(number uint8, body string) api.Frame {
	return api.Frame{Kind: again.Data, Number: number, Body: body}
}

func sender(t *testing.T, window int, wait int64, bodies ...string) *again.Sender {
	s, e := again.NewSender(window, wait)
	if e != api.OK {
		t.Fatal("NewSender:", window, wait, e)
	}
	for _, body := range bodies {
		if e := s.Offer(body); e != api.OK {
			t.Fatal("Offer:", body, e)
		}
	}
	return s
}

func TestP28_1And2Sender(t *testing.T) {
	s := sender(t, 2, 5, "a", "b", "c")
	tick := func(now int64, want ...api.Frame) {
		t.Helper()
		if l, e := s.Tick(now); e != api.OK || !slices.Equal(l, want) {
			t.Error("Tick:", now, l, e)
		}
	}
	hear := func(f api.Frame, left int) {
		t.Helper()
		if e := s.Hear(f); e != api.OK || s.Left() != left {
			t.Error("Hear:", f, e, s.Left())
		}
	}
	tick(0, data(0, "a"), data(1, "b"))
	tick(4)
	if l, e := s.Tick(3); l != nil || e != api.ErrArg {
		t.Error("Tick back:", l, e)
	}
	tick(5, data(0, "a"), data(1, "b"))
	hear(answer(3), 3)
	hear(answer(1), 2)
	tick(6, data(2, "c"))
	hear(answer(1, 0), 2)
	tick(9)
	tick(10, data(1, "b"))
	hear(answer(200), 2)
	hear(answer(3), 0)
	tick(11)
	hear(answer(3, 0, 1), 0)
	if e := s.Offer("d"); e != api.OK || s.Left() != 1 {
		t.Error("Offer behind all:", e)
	}
	hear(answer(4), 1) // it was not sent yet
	tick(11, data(3, "d"))
	hear(answer(4), 0)
	for _, f := range []api.Frame{{}, {Kind: 1, Body: answer(0).Body}, {Kind: 2, More: true, Body: answer(0).Body}, {Kind: 2, Body: "short"}, {Kind: 2, Body: answer(0).Body + "x"}} {
		if e := s.Hear(f); e != api.ErrForm {
			t.Error("Hear:", f, e)
		}
	}
}

func TestP28_1Bounds(t *testing.T) {
	for _, c := range []struct {
		window int
		wait   int64
	}{{129, 1}, {0, 1}, {1, 0}, {-1, 1}, {1, math.MinInt64}, {math.MaxInt, 1}} {
		if s, e := again.NewSender(c.window, c.wait); s != nil || e != api.ErrArg {
			t.Error("NewSender:", c, e)
		}
		if r, e := again.NewReceiver(c.window); c.wait == 1 && (r != nil || e != api.ErrArg) {
			t.Error("NewReceiver:", c, e)
		}
	}
	one, _ := again.NewReceiver(1)
	if l, a, e := one.Take(data(0, strings.Repeat("x", 240))); len(l) != 1 || a != answer(1) || e != api.OK {
		t.Error("the longest body:", len(l), e)
	}
	s := sender(t, 128, math.MaxInt64, strings.Repeat("x", 240))
	if e := s.Offer(strings.Repeat("x", 241)); e != api.ErrArg {
		t.Error("Offer:", e)
	}
	for range again.MaxQueue - 1 {
		s.Offer("")
	}
	if e := s.Offer(""); e != api.ErrFull || s.Left() != again.MaxQueue {
		t.Error("Offer to a full one:", e)
	}
	if e := s.Offer(strings.Repeat("x", 241)); e != api.ErrArg {
		t.Error("the first error:", e)
	}
	if l, e := s.Tick(-1); l != nil || e != api.ErrArg {
		t.Error("Tick below 0:", e)
	}
	if l, e := s.Tick(0); len(l) != 128 || e != api.OK {
		t.Error("a whole window:", len(l), e)
	}
	var all []int
	for i := range 127 {
		all = append(all, i)
	}
	if e := s.Hear(answer(0, all...)); e != api.OK || s.Left() != again.MaxQueue {
		t.Error("all but the front:", e, s.Left())
	}
	if l, _ := s.Tick(math.MaxInt64); len(l) != 1 || l[0].Number != 0 {
		t.Error("the front alone:", len(l))
	}
	if e := s.Hear(answer(1)); e != api.OK || s.Left() != again.MaxQueue-128 {
		t.Error("the whole window is passed:", e, s.Left())
	}
	var none *again.Sender
	_, e1 := none.Tick(-1)
	if e2, e3 := none.Offer("x"), none.Hear(api.Frame{}); e1 != api.ErrNil || e2 != api.ErrNil || e3 != api.ErrNil || none.Left() != 0 {
		t.Error("a nil sender:", e1, e2, e3)
	}
	var made again.Sender
	made.Offer("x")
	made.Tick(1)
	made.Hear(answer(0))
	var got again.Receiver
	got.Take(data(0, "x"))
}

func TestP28_3Receiver(t *testing.T) {
	r, e := again.NewReceiver(3)
	if e != api.OK {
		t.Fatal("NewReceiver:", e)
	}
	handed := 0
	for i, c := range []struct {
		f      api.Frame
		handed []string
		answer api.Frame
	}{{data(1, "b"), nil, answer(0, 0)}, {data(2, "c"), nil, answer(0, 0, 1)}, {data(2, "?"), nil, answer(0, 0, 1)}, {data(3, "d"), nil, answer(0, 0, 1)}, {data(0, "a"), []string{"a", "b", "c"}, answer(3)}, {data(1, "b"), nil, answer(3)}, {data(6, "x"), nil, answer(3)}, {data(5, "f"), nil, answer(3, 1)}} {
		l, f, e := r.Take(c.f)
		handed += len(c.handed)
		if !slices.Equal(l, c.handed) || f != c.answer || e != api.OK || r.Handed() != handed {
			t.Error("Take:", i, l, f, e)
		}
	}
	for _, f := range []api.Frame{answer(0), {Kind: 1, More: true}, {Kind: 1, Body: strings.Repeat("x", 241)}, {}} {
		if l, a, e := r.Take(f); l != nil || a != (api.Frame{}) || e != api.ErrForm {
			t.Error("Take:", f, e)
		}
	}
	for n := range 600 { // round past 255, twice
		r.Take(data(uint8(3+n), strconv.Itoa(n)))
	}
	if l, a, e := r.Take(data(uint8(603&255), "last")); len(l) != 1 || a.Number != uint8(604&255) || r.Handed() != 604 || e != api.OK {
		t.Error("numbers go round:", l, a.Number, r.Handed(), e)
	}
	var none *again.Receiver
	if l, a, e := none.Take(api.Frame{}); l != nil || a != (api.Frame{}) || e != api.ErrNil || none.Handed() != 0 {
		t.Error("a nil receiver:", e)
	}
}

// link carries frames: some are lost, some come twice, some late.
type link struct {
	*rand.Rand
	loss, late int
	flying     map[int64][]api.Frame // by when they come
}

func (l link) send(now int64, f api.Frame) {
	for range 1 + l.Intn(2) {
		if l.Intn(100) >= l.loss {
			at := now + int64(l.Intn(l.late+1))
			l.flying[at] = append(l.flying[at], f)
		}
	}
}

func (l link) come(now int64) []api.Frame {
	out := l.flying[now]
	delete(l.flying, now)
	l.Shuffle(len(out), func(i, j int) { out[i], out[j] = out[j], out[i] })
	return out
}

func TestP28_4To6Lossy(t *testing.T) {
	r := rand.New(rand.NewSource(1))
	for range 60 {
		window, wait, n := []int{1, 2, 7, 30, 128}[r.Intn(5)], int64(1+r.Intn(6)), r.Intn(700)
		loss, late := r.Intn(3)*30, r.Intn(max(1, min(6, 256/window-1)))
		there, back := link{r, loss, late, map[int64][]api.Frame{}}, link{r, loss, late, map[int64][]api.Frame{}}
		s := sender(t, window, wait)
		got, _ := again.NewReceiver(window)
		for i := range n {
			s.Offer(strconv.Itoa(i))
		}
		var up []string
		last := map[uint8]int64{} // when a number was sent last
		sent := 0
		for now := int64(0); s.Left() > 0; now++ {
			if now > 100000 {
				t.Fatal("no end:", window, wait, n, loss, late)
			}
			frames, _ := s.Tick(now)
			for _, f := range frames {
				if at, ok := last[f.Number]; ok && now-at < wait && window < 30 {
					t.Fatal("sent again too soon:", f.Number)
				}
				last[f.Number] = now
				sent++
				there.send(now, f)
			}
			for _, f := range there.come(now) {
				l, a, e := got.Take(f)
				if up = append(up, l...); e != api.OK {
					t.Fatal("Take:", e)
				}
				back.send(now, a)
			}
			for _, f := range back.come(now) {
				s.Hear(f)
			}
		}
		for i, body := range up {
			if body != strconv.Itoa(i) {
				t.Fatal("out of order:", i, body)
			}
		}
		if len(up) != n || loss == 0 && int64(2*late) < wait && sent != n {
			t.Fatal("all, once:", window, wait, late, len(up), n, sent)
		}
	}
}
