package console

import (
	"slices"

	"foghorn/api"
	"foghorn/block"
	"foghorn/grid"
	"foghorn/pulse"
	"foghorn/shore"
	"foghorn/strait"
)

const (
	tapSteps = 64 // of a tap, from 0 to 1
	steps    = 1 << grid.Behind
	maxNoise = grid.Edge * steps
)

// action does an order that was read.
type action func() []string

// orders are what is read behind each word, and what is done then.
func (c *Console) orders() map[string]func(w *words) action {
	return map[string]func(w *words) action{
		"pulse":   func(w *words) action { return c.closed(c.pulse(w)) },
		"block":   func(w *words) action { return c.closed(c.plans(w)) },
		"link":    func(w *words) action { return c.closed(c.links(w)) },
		"strait":  c.strait,
		"echo":    c.echo,
		"noise":   c.noise,
		"burst":   c.burst,
		"calm":    c.calm,
		"room":    func(*words) action { return c.room },
		"places":  func(*words) action { return c.places },
		"code":    c.code,
		"decode":  c.decode,
		"send":    c.send,
		"hear":    c.hear,
		"receive": c.receive,
		"open":    func(*words) action { return c.closed(c.open) },
		"close":   func(*words) action { return c.opened(c.close) },
		"offer":   func(w *words) action { return c.opened(c.offer(w)) },
		"round":   func(*words) action { return c.opened(c.round) },
		"rounds":  func(w *words) action { return c.opened(c.rounds(w)) },
		"state":   func(w *words) action { return c.opened(c.state(w)) },
	}
}

// closed does what may not be done while there are stations.
func (c *Console) closed(do action) action {
	return func() []string {
		if c.isOpen() {
			refuse(api.ErrDone)
		}
		return do()
	}
}

// opened does what may be done only while there are stations.
func (c *Console) opened(do action) action {
	return func() []string {
		if !c.isOpen() {
			refuse(api.ErrNil)
		}
		return do()
	}
}

func (c *Console) pulse(w *words) action {
	name, rate := w.next(), w.count()
	return func() []string {
		shape, e := pulse.Named(name, rate)
		must(e)
		p := c.block
		p.Pulse = shape
		must(p.Check())
		c.block = p
		for i := range c.ways {
			c.ways[i].strait.Rate = shape.Rate
		}
		return ok()
	}
}

func (c *Console) plans(w *words) action {
	p := block.Plan{Size: w.count(), Taps: w.count(), Pair: w.count(), Block: w.count(), Words: w.count(), Length: w.count(), Checks: w.count()}
	return func() []string {
		p.Pulse = c.block.Pulse
		room, e := p.Room()
		must(e)
		c.block = p
		return ok(told(room)...)
	}
}

func (c *Console) links(w *words) action {
	p := shore.Plan{Window: w.count(), Body: w.count(), Wait: w.number(), Order: w.count(), Echo: w.count(), Renew: w.count()}
	return func() []string {
		whole := p
		whole.Block = c.block
		must(whole.Check())
		c.link = p
		return ok()
	}
}

// over reads which way is meant.
func (c *Console) over(w *words) *way { return &c.ways[w.one("ab", "ba")] }

// lay lays a strait, if it may be.
func (x *way) lay(s api.Strait) []string {
	must(strait.Check(s))
	x.strait = s
	return ok()
}

func (c *Console) strait(w *words) action {
	x, delay, numbers := c.over(w), w.count(), w.numbers()
	return func() []string {
		taps := pairs(numbers, tapSteps)
		return x.lay(api.Strait{Rate: x.strait.Rate, Delay: delay, Taps: taps, Echo: x.strait.Echo})
	}
}

func (c *Console) echo(w *words) action {
	x, numbers := c.over(w), w.numbers()
	return func() []string {
		s := x.strait
		s.Echo = pairs(numbers, tapSteps)
		return x.lay(s)
	}
}

func (c *Console) noise(w *words) action {
	x, numbers := c.over(w), w.numbers()
	return func() []string {
		disturb := pairs(numbers, steps)
		if slices.ContainsFunc(numbers, func(n int64) bool { return n < -maxNoise || n > maxNoise }) {
			refuse(api.ErrGrid)
		}
		if len(disturb) > api.MaxSamples {
			refuse(api.ErrArg)
		}
		x.disturb = disturb
		return ok(told(len(disturb))...)
	}
}

func (c *Console) burst(w *words) action {
	x, b := c.over(w), api.Burst{At: w.count(), N: w.count()}
	if len(w.left) == 1 && w.left[0] == "lost" {
		w.next()
		b.Lost = true
	} else {
		b.V = pairs([]int64{w.number(), w.number()}, steps)[0]
	}
	return func() []string {
		if b.At < 0 || b.N < 0 || len(x.bursts) >= api.MaxSteps {
			refuse(api.ErrArg)
		}
		x.bursts = append(x.bursts, b)
		return ok(told(len(x.bursts))...)
	}
}

func (c *Console) calm(w *words) action {
	x := c.over(w)
	return func() []string {
		x.disturb, x.bursts = nil, nil
		return ok()
	}
}

func (c *Console) room() []string {
	room, e := c.block.Room()
	must(e)
	return ok(told(room)...)
}

func (c *Console) places() []string {
	l, e := c.block.Places()
	must(e)
	return ok(told(append([]int{l.Marker, l.Train[0], l.Train[1], l.Length}, l.Blocks...)...)...)
}

func (c *Console) code(w *words) action {
	message := w.bytes()
	return func() []string {
		coded, e := c.block.Code(message)
		must(e)
		return ok(toldBytes(coded))
	}
}

func (c *Console) decode(w *words) action {
	coded, numbers := w.bytes(), w.numbers()
	return func() []string {
		lost := make([]int, len(numbers))
		for i, n := range numbers {
			lost[i] = int(n)
		}
		message, wrong, e := c.block.Decode(coded, lost)
		must(e)
		return ok(append([]string{toldBytes(message)}, told(wrong)...)...)
	}
}

func (c *Console) send(w *words) action {
	message := w.bytes()
	return func() []string {
		row, e := c.block.Send(message)
		must(e)
		return ok(told(len(row))...)
	}
}

// arrived is what comes in of a message that is sent this way.
func (c *Console) arrived(x *way, message string) []api.Sample {
	row, e := c.block.Send(message)
	must(e)
	s := x.strait
	n := min(len(row)+s.Delay+s.Rate*len(s.Taps), api.MaxSamples)
	l, e := strait.Arrive(s, row, nil, x.disturb, x.bursts, n)
	must(e)
	return l
}

func (c *Console) hear(w *words) action {
	x, message := c.over(w), w.bytes()
	return func() []string {
		heard, e := c.block.Hear(c.arrived(x, message))
		must(e)
		f := heard.Found
		return ok(append(told(f.At, int(4*f.Size), f.Quarters, len(heard.Lost)), toldTaps(heard.Taps)...)...)
	}
}

func (c *Console) receive(w *words) action {
	x, message := c.over(w), w.bytes()
	return func() []string {
		received, e := c.block.Receive(c.arrived(x, message))
		must(e)
		return ok(toldBytes(received))
	}
}

func (c *Console) open() []string {
	var stations [2]*shore.Station
	for side := range stations {
		s, e := shore.New(c.plan(side))
		must(e)
		stations[side] = s
	}
	c.shore = stations
	return ok()
}

func (c *Console) close() []string {
	c.shore = [2]*shore.Station{}
	return ok()
}

func (c *Console) offer(w *words) action {
	side, message := w.one("a", "b"), w.bytes()
	return func() []string {
		s := c.shore[side]
		must(s.Offer(message))
		return ok(told(s.Left())...)
	}
}

// exchange is a round: the lines of what is handed up.
func (c *Console) exchange() []string {
	ab, ba := &c.ways[0], &c.ways[1]
	toA, toB, e := shore.Exchange(c.shore[0], c.shore[1], ab.strait, ba.strait, ba.disturb, ab.disturb, ba.bursts, ab.bursts)
	must(e)
	var out []string
	for _, message := range toA {
		out = append(out, line("a", toldBytes(message)))
	}
	for _, message := range toB {
		out = append(out, line("b", toldBytes(message)))
	}
	return out
}

func (c *Console) round() []string {
	lines := c.exchange()
	return append(ok(told(len(lines))...), lines...)
}

func (c *Console) rounds(w *words) action {
	n := w.count()
	return func() []string {
		if n < 1 || n > MaxRounds {
			refuse(api.ErrArg)
		}
		var lines []string
		done := 0
		for done < n && c.shore[0].Left()+c.shore[1].Left() > 0 {
			lines = append(lines, c.exchange()...)
			done++
		}
		return append(ok(told(done, len(lines))...), lines...)
	}
}

func (c *Console) state(w *words) action {
	side := w.one("a", "b")
	return func() []string {
		s := c.shore[side]
		return ok(append(told(s.Round(), s.Left(), s.Handed()), toldTaps(s.Echo())...)...)
	}
}
