package block

import (
	"foghorn/api"
	"foghorn/bits"
	"foghorn/feedback"
	"foghorn/grid"
	"foghorn/hunt"
	"foghorn/mend"
	"foghorn/pulse"
	"foghorn/slice"
	"foghorn/sums"
	"foghorn/weave"
)

// lostUnless makes each error of a step ErrLost: whatever it says, nothing can be told any more.
func lostUnless(do step) step {
	return func() api.Errno {
		if do() != api.OK {
			return api.ErrLost
		}
		return api.OK
	}
}

// Hear hears a row of samples.
func (p Plan) Hear(l []api.Sample) (Heard, api.Errno) {
	var heard Heard
	var places api.Places
	late := 0
	e := gone([]step{
		func() (e api.Errno) {
			places, e = p.Places()
			return e
		},
		func() api.Errno {
			_, e := grid.Check(l)
			return e
		},
		lostUnless(func() (e api.Errno) {
			heard.Found, e = hunt.Find(l, 0, len(l))
			late = heard.Found.At - places.Marker
			return e
		}),
		lostUnless(func() (e api.Errno) {
			heard.Taps, e = p.training().Taps(l, places.Train[0]+late, p.Taps)
			return e
		}),
		lostUnless(func() api.Errno { return feedback.Check(heard.Taps) }),
		func() api.Errno { return p.hearBlocks(&heard, l, places, late) },
	})
	if e != api.OK {
		return Heard{}, e
	}
	return heard, api.OK
}

// hearBlocks tells the coded bytes of all blocks, and which of them are lost.
func (p Plan) hearBlocks(heard *Heard, l []api.Sample, places api.Places, late int) api.Errno {
	coded := make([]byte, 0, len(places.Blocks)*p.Block)
	for i, at := range places.Blocks {
		samples, e := p.instants(l, at+late)
		if e != api.OK {
			return e
		}
		decisions, e := feedback.Run(p.Size, heard.Taps, samples)
		if e != api.OK {
			return e
		}
		block, lost, e := p.bytesOf(i, decisions)
		if e != api.OK {
			return e
		}
		coded = append(coded, block...)
		for k, isLost := range lost {
			if place := i*p.Block + k; isLost && place < p.coded() {
				heard.Lost = append(heard.Lost, place)
			}
		}
	}
	heard.Coded = string(coded[:p.coded()])
	return api.OK
}

// instants are the samples at a block's points' own instants; those past the row's end are lost.
func (p Plan) instants(l []api.Sample, at int) ([]api.Sample, api.Errno) {
	out := make([]api.Sample, p.points())
	for k := range out {
		out[k].Lost = true
	}
	from := min(at, len(l))
	to := min(at+(p.points()-1)*p.Pulse.Rate+len(p.Pulse.Taps), len(l))
	own := l[from:to:to]
	there := min(upward(max(0, len(own)-p.Pulse.Fore), p.Pulse.Rate), len(out))
	picked, e := pulse.Pick(p.Pulse, own, p.Pulse.Fore, there)
	copy(out, picked)
	return out, e
}

// bytesOf is a block of this number, and which of its bytes are lost: these are 0.
func (p Plan) bytesOf(number int, decisions []slice.Decision) (string, []bool, api.Errno) {
	row := make([]bool, 0, len(decisions)*p.bits())
	missing := make([]bool, 0, len(decisions)*p.bits())
	for _, d := range decisions {
		own, e := bits.Row([]int{d.Label}, p.bits())
		if e != api.OK {
			return "", nil, e
		}
		for _, bit := range own {
			row = append(row, bit)
			missing = append(missing, d.Lost)
		}
	}
	row, e := laidOver(number, row[:8*p.Block])
	if e != api.OK {
		return "", nil, e
	}
	lost := make([]bool, p.Block)
	for i := range row {
		lost[i/8] = lost[i/8] || missing[i]
	}
	for i := range row {
		row[i] = row[i] && !lost[i/8]
	}
	block, e := bits.Bytes(row)
	return block, lost, e
}

// Decode is the message that coded bytes say.
func (p Plan) Decode(coded string, lost []int) (message string, wrong int, e api.Errno) {
	var words []string
	var marks [][]int
	var mended []mend.Mended
	e = gone([]step{
		p.Check,
		func() api.Errno { return within(len(coded), p.coded(), p.coded())() },
		func() (e api.Errno) {
			marks, e = weave.Marks(lost, p.Words, p.Length)
			return e
		},
		func() (e api.Errno) {
			words, e = weave.Out(coded, p.Words)
			return e
		},
		func() api.Errno {
			all, refused, e := mend.All(words, p.Checks, marks)
			if e == api.OK && len(refused) > 0 {
				e = api.ErrLost
			}
			mended = all
			return e
		},
		func() (e api.Errno) {
			message, e = p.opened(mended)
			return e
		},
	})
	if e != api.OK {
		return "", 0, e
	}
	for _, m := range mended {
		wrong += len(m.Wrong)
	}
	return message, wrong, api.OK
}

// opened is the message in the data of mended words.
func (p Plan) opened(words []mend.Mended) (string, api.Errno) {
	data := make([]byte, 0, p.data())
	for _, m := range words {
		data = append(data, m.Word[:p.Length-p.Checks]...)
	}
	bare, ok := sums.Opened(string(data))
	if !ok {
		return "", api.ErrForm
	}
	long := int(bare[0])<<8 | int(bare[1])
	if long > p.room() {
		return "", api.ErrForm
	}
	behind := bare[lengthBytes+long:]
	for i := range len(behind) {
		if behind[i] != 0 {
			return "", api.ErrForm
		}
	}
	return bare[lengthBytes : lengthBytes+long], api.OK
}

// Receive is the message that a row of samples says.
func (p Plan) Receive(l []api.Sample) (string, api.Errno) {
	heard, e := p.Hear(l)
	if e != api.OK {
		return "", e
	}
	message, _, e := p.Decode(heard.Coded, heard.Lost)
	return message, e
}
