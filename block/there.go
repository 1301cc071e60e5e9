package block

import (
	"foghorn/api"
	"foghorn/bits"
	"foghorn/hunt"
	"foghorn/points"
	"foghorn/pulse"
	"foghorn/reed"
	"foghorn/scramble"
	"foghorn/sums"
	"foghorn/weave"
)

// Code is a message as woven codewords.
func (p Plan) Code(message string) (string, api.Errno) {
	var words []string
	var coded string
	e := gone([]step{
		p.Check,
		func() api.Errno { return within(len(message), 0, p.room())() },
		func() (e api.Errno) {
			words, e = p.encoded(p.sealed(message))
			return e
		},
		func() (e api.Errno) {
			coded, e = weave.In(words)
			return e
		},
	})
	if e != api.OK {
		return "", e
	}
	return coded, api.OK
}

// sealed is a message as long as the data are.
func (p Plan) sealed(message string) string {
	bare := make([]byte, p.data()-sumBytes)
	bare[0], bare[1] = byte(len(message)>>8), byte(len(message))
	copy(bare[lengthBytes:], message)
	return sums.Sealed(string(bare))
}

func (p Plan) encoded(data string) ([]string, api.Errno) {
	long := p.Length - p.Checks
	words := make([]string, p.Words)
	for i := range words {
		word, e := reed.Encode(data[i*long:(i+1)*long], p.Checks)
		if e != api.OK {
			return nil, e
		}
		words[i] = word
	}
	return words, api.OK
}

// Points are coded bytes as points, block by block.
func (p Plan) Points(coded string) ([][]complex128, api.Errno) {
	if e := p.Check(); e != api.OK {
		return nil, e
	}
	if len(coded) != p.coded() {
		return nil, api.ErrArg
	}
	out := make([][]complex128, p.blocks())
	for i := range out {
		own := make([]byte, p.Block)
		copy(own, coded[i*p.Block:])
		row, e := p.pointsOf(i, string(own))
		if e != api.OK {
			return nil, e
		}
		out[i] = row
	}
	return out, api.OK
}

// pointsOf is a block of this number as points.
func (p Plan) pointsOf(number int, block string) ([]complex128, api.Errno) {
	l, e := bits.Of(block)
	if e != api.OK {
		return nil, e
	}
	if l, e = laidOver(number, l); e != api.OK {
		return nil, e
	}
	// The greatest block's last point may go past the greatest row of bits: it is made by itself.
	whole := len(l) / p.bits() * p.bits()
	out, e := points.Row(l[:whole], p.Size)
	if e != api.OK {
		return nil, e
	}
	rest, e := bits.Pad(l[whole:], p.bits())
	if e != api.OK {
		return nil, e
	}
	last, e := points.Row(rest, p.Size)
	return append(out, last...), e
}

// laidOver is a block's bits with its number's register applied to them: there, and back again.
func laidOver(number int, l []bool) ([]bool, api.Errno) {
	register, e := scramble.For(number)
	if e != api.OK {
		return nil, e
	}
	return register.Apply(l)
}

// Send is a message as a row of samples.
func (p Plan) Send(message string) ([]complex128, api.Errno) {
	var coded string
	var blocks [][]complex128
	var row []complex128
	e := gone([]step{
		func() (e api.Errno) {
			coded, e = p.Code(message)
			return e
		},
		func() (e api.Errno) {
			blocks, e = p.Points(coded)
			return e
		},
		func() (e api.Errno) {
			row, e = p.laid(blocks)
			return e
		},
	})
	if e != api.OK {
		return nil, e
	}
	return row, api.OK
}

// laid is the stream of these blocks.
func (p Plan) laid(blocks [][]complex128) ([]complex128, api.Errno) {
	places, e := p.places()
	if e != api.OK {
		return nil, e
	}
	training, e := p.training().Laid()
	if e != api.OK {
		return nil, e
	}
	row := make([]complex128, places.Length)
	row[places.Marker] = hunt.Marker
	copy(row[places.Train[0]:], training)
	for i, block := range blocks {
		samples, e := pulse.Shape(p.Pulse, block)
		if e != api.OK {
			return nil, e
		}
		copy(row[places.Blocks[i]:], samples)
	}
	return row, api.OK
}
