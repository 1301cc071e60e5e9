package rules_test

import (
	"slices"
	"strings"
	"testing"

	"foghorn/again"
	"foghorn/api"
	"foghorn/bits"
	"foghorn/block"
	"foghorn/feedback"
	"foghorn/field"
	"foghorn/frame"
	"foghorn/hard"
	"foghorn/hunt"
	"foghorn/load"
	"foghorn/mend"
	"foghorn/meter"
	"foghorn/mix"
	"foghorn/near"
	"foghorn/plane"
	"foghorn/points"
	"foghorn/pulse"
	"foghorn/reed"
	"foghorn/scramble"
	"foghorn/shore"
	"foghorn/soft"
	"foghorn/strait"
	"foghorn/sums"
	"foghorn/tempo"
	"foghorn/text"
	"foghorn/tones"
	"foghorn/train"
	"foghorn/trellis"
	"foghorn/turns"
	"foghorn/weave"
)

// of is the error of an answer of two.
func of[T any](_ T, e api.Errno) api.Errno { return e }

// of3 is the error of an answer of three.
func of3[T, U any](_ T, _ U, e api.Errno) api.Errno { return e }

// of4 is the error of an answer of four.
func of4[T, U, V any](_ T, _ U, _ V, e api.Errno) api.Errno { return e }

// limit is a call by a size: of a number that is a limit it answers OK, of one more an error.
type limit struct {
	name string
	most int
	call func(n int) api.Errno
	e    api.Errno
}

func truths(n int) []bool        { return make([]bool, n) }
func numbers(n int) []complex128 { return make([]complex128, n) }
func samples(n int) []api.Sample { return make([]api.Sample, n) }
func letters(n int) string       { return strings.Repeat("x", n) }
func taps(n int) []complex128    { return append([]complex128{1}, numbers(n-1)...) }
func weights(n int) []int        { return slices.Repeat([]int{1}, n) }
func marks(n int) []hard.Mark    { return make([]hard.Mark, n) }
func signs(n int) []int8         { return slices.Repeat([]int8{1}, n) }
func frames(body int) api.Frame  { return api.Frame{Kind: 1, Body: letters(body)} }
func through(h int) api.Strait   { return api.Strait{Rate: 1, Taps: taps(h)} }
func late(delay int) api.Strait  { return api.Strait{Rate: 1, Delay: delay, Taps: taps(1)} }
func spikes(rate int) api.Pulse  { return api.Pulse{Rate: rate, Taps: []float64{1}} }
func wide(n int) api.Pulse {
	return api.Pulse{Rate: 1, Taps: append([]float64{1}, make([]float64, n-1)...)}
}
func blocks(n int) block.Plan {
	return block.Plan{Size: 4, Taps: 1, Pair: 1, Block: n, Words: 1, Length: 10, Checks: 2, Pulse: spikes(1)}
}
func rows(n int) []complex128    { return numbers(n) }
func bursts(n int) []api.Burst   { return make([]api.Burst, n) }
func points4(n int) []complex128 { return slices.Repeat([]complex128{1 + 1i}, n) }
func talks(f func(p *shore.Plan)) api.Errno {
	p := shore.Plan{Block: block.Plan{Size: 256, Taps: 1, Pair: 1, Block: 4096, Words: 240, Length: 255, Checks: 2, Pulse: spikes(1)}, Window: 1, Wait: 1, Order: 1}
	f(&p)
	return p.Check()
}

func bitLimits() []limit {
	const most = api.MaxBits
	return []limit{
		{"bits.Of", most / 8, func(n int) api.Errno { return of(bits.Of(letters(n))) }, api.ErrArg},
		{"bits.Words", most, func(n int) api.Errno { return of(bits.Words(truths(n), 1)) }, api.ErrArg},
		{"bits.Row", most, func(n int) api.Errno { return of(bits.Row(make([]int, n), 1)) }, api.ErrArg},
		{"bits.Xor", most, func(n int) api.Errno { return of(bits.Xor(truths(n), truths(n))) }, api.ErrArg},
		{"bits.Pad", most, func(n int) api.Errno { return of(bits.Pad(truths(n), 1)) }, api.ErrArg},
		{"bits.Pad by", 4096, func(n int) api.Errno { return of(bits.Pad(truths(1), n)) }, api.ErrArg},
		{"bits.Parse", most, func(n int) api.Errno { return of3(bits.Parse(strings.Repeat("1", n))) }, api.ErrForm},
		{"bits.Words' width", 16, func(n int) api.Errno { return of(bits.Words(nil, n)) }, api.ErrArg},
		{"points.Back", most / 2, func(n int) api.Errno { return of(points.Back(points4(n), 4)) }, api.ErrArg},
		{"points.Coset", 8, func(n int) api.Errno { return of(points.Coset(4, 1+1i, n)) }, api.ErrArg},
		{"turns.Bits", most / 2, func(n int) api.Errno { return of(turns.Bits(make([]uint8, n))) }, api.ErrArg},
		{"turns.Of", most / 2, func(n int) api.Errno { return of(turns.Of(truths(2 * n))) }, api.ErrArg},
		{"scramble.Row", most, func(n int) api.Errno { x, _ := scramble.For(1); return of(x.Row(n)) }, api.ErrArg},
		{"scramble.Apply", most, func(n int) api.Errno { x, _ := scramble.For(1); return of(x.Apply(truths(n))) }, api.ErrArg},
		{"scramble.Period", 1 << 20, func(n int) api.Errno { x, _ := scramble.For(1); return of(x.Period(n)) }, api.ErrArg},
		{"scramble.New", 32, func(n int) api.Errno { return of(scramble.New(n, 1, 1)) }, api.ErrArg},
		{"trellis.Encode", most/2 - 2, func(n int) api.Errno { return of(trellis.Short().Encode(truths(n))) }, api.ErrArg},
		{"trellis.Exact", most / 2, func(n int) api.Errno { return of(trellis.Short().Exact(truths(2 * n))) }, api.ErrArg},
		{"hard.Path", most / 2, func(n int) api.Errno { return of3(hard.Path(trellis.Short(), marks(2*n))) }, api.ErrArg},
		{"hard.Thin", most, func(n int) api.Errno { return of(hard.Thin(truths(n), []bool{true})) }, api.ErrArg},
		{"hard.Thin's pattern", 64, func(n int) api.Errno { return of(hard.Thin(nil, append([]bool{true}, truths(n-1)...))) }, api.ErrArg},
		{"hard.Fill", most, func(n int) api.Errno { return of(hard.Fill(truths(n), []bool{true}, n)) }, api.ErrArg},
		{"sums.Sum16", most, func(n int) api.Errno { return of(sums.Sum16(truths(n))) }, api.ErrArg},
		{"sums.Sum32", most, func(n int) api.Errno { return of(sums.Sum32(truths(n))) }, api.ErrArg},
		{"sums.Row32", most - 32, func(n int) api.Errno { return of(sums.Row32(truths(n))) }, api.ErrArg},
		{"sums.Joined32", most, func(n int) api.Errno { return of(sums.Joined32(1, 1, n)) }, api.ErrArg},
		{"load.Deal", most / 2, func(n int) api.Errno { return of(load.Deal([]int{2}, truths(2*n))) }, api.ErrArg},
		{"load.Gather", most / 2, func(n int) api.Errno { return of(load.Gather([]int{2}, [][]bool{truths(2 * n)})) }, api.ErrArg},
		{"load.Deal's carriers", 256, func(n int) api.Errno { return of(load.Deal(slices.Repeat([]int{2}, n), nil)) }, api.ErrArg},
		{"load.Most's carriers", 256, func(n int) api.Errno { return of(load.Most(weights(n), 1)) }, api.ErrArg},
		{"load.Most's weight", 1 << 20, func(n int) api.Errno { return of(load.Most([]int{n}, 1)) }, api.ErrArg},
		{"load.Most's power", 1 << 40, func(n int) api.Errno { return of(load.Most(weights(1), n)) }, api.ErrArg},
		{"load.Least", 2048, func(n int) api.Errno { return of(load.Least(weights(256), n)) }, api.ErrNone},
		{"load.Weight", 10, func(n int) api.Errno { return of(load.Weight(n)) }, api.ErrArg},
		{"meter.Errors", most, func(n int) api.Errno { return of3(meter.Errors(truths(n), truths(n))) }, api.ErrArg},
		{"meter.Off", 64, func(n int) api.Errno { return of4(meter.Off(samples(n), numbers(n))) }, api.ErrArg},
		{"meter.Power", 64, func(n int) api.Errno { return of3(meter.Power(samples(n))) }, api.ErrArg},
	}
}

func sampleLimits() []limit {
	const most = api.MaxSamples
	return []limit{
		{"plane.Filter", most, func(n int) api.Errno { return of(plane.Filter(taps(1), numbers(n))) }, api.ErrArg},
		{"plane.Filter's taps", 64, func(n int) api.Errno { return of(plane.Filter(taps(n), nil)) }, api.ErrArg},
		{"turns.Whole", most, func(n int) api.Errno { return of(turns.Whole(numbers(n), 1)) }, api.ErrArg},
		{"turns.Row", most, func(n int) api.Errno { return of3(turns.Row(samples(n))) }, api.ErrArg},
		{"turns.Into", most, func(n int) api.Errno { return of(turns.Into(make([]uint8, n))) }, api.ErrArg},
		{"turns.Found", most, func(n int) api.Errno { return of(turns.Found(numbers(n), numbers(n))) }, api.ErrArg},
		{"pulse.Length", most, func(n int) api.Errno { return of(pulse.Length(spikes(1), n)) }, api.ErrArg},
		{"pulse.Length's samples", 1 + (most-1)/8, func(n int) api.Errno { return of(pulse.Length(spikes(8), n)) }, api.ErrArg},
		{"pulse.Pick", most, func(n int) api.Errno { return of(pulse.Pick(spikes(1), samples(n), 0, 1)) }, api.ErrArg},
		{"pulse.Check's rate", 8, func(n int) api.Errno { return pulse.Check(spikes(n)) }, api.ErrArg},
		{"pulse.Check's taps", 64, func(n int) api.Errno { return pulse.Check(wide(n)) }, api.ErrTaps},
		{"mix.Up", most, func(n int) api.Errno { return of(mix.Up(numbers(n), 1)) }, api.ErrArg},
		{"mix.Carrier", most, func(n int) api.Errno { return of(mix.Carrier(1, n)) }, api.ErrArg},
		{"mix.Line", most / 2, func(n int) api.Errno { return of(mix.Line(numbers(n))) }, api.ErrArg},
		{"mix.Unline", most / 2, func(n int) api.Errno { return of(mix.Unline(make([]float64, 2*n))) }, api.ErrArg},
		{"mix.Share", most, func(n int) api.Errno { return of(mix.Share(numbers(n), 0, 1)) }, api.ErrArg},
		{"mix.Share's step", most, func(n int) api.Errno { return of(mix.Share(nil, 0, n)) }, api.ErrArg},
		{"mix.Merge", most, func(n int) api.Errno { return of(mix.Merge(make([][]complex128, n))) }, api.ErrArg},
		{"mix.Merge's numbers", most, func(n int) api.Errno { return of(mix.Merge([][]complex128{numbers(n)})) }, api.ErrArg},
		{"tones.Energy", most, func(n int) api.Errno { return of(tones.Energy(numbers(n))) }, api.ErrArg},
		{"tones.Send", most / 4, func(n int) api.Errno { return of(tones.Send(1, numbers(4*n))) }, api.ErrArg},
		{"tones.Pure", 3, func(n int) api.Errno { return of(tones.Pure(n, 0)) }, api.ErrArg},
		{"strait.Pass", most, func(n int) api.Errno { return of(strait.Pass(late(0), nil, nil, n)) }, api.ErrArg},
		{"strait.Pass of", most, func(n int) api.Errno { return of(strait.Pass(late(0), rows(n), nil, 1)) }, api.ErrArg},
		{"strait.Pass with", most, func(n int) api.Errno { return of(strait.Pass(late(0), nil, rows(n), 1)) }, api.ErrArg},
		{"strait.Arrive disturbed", most, func(n int) api.Errno { return of(strait.Arrive(late(0), nil, nil, numbers(n), nil, 1)) }, api.ErrArg},
		{"strait.Arrive torn", 5000, func(n int) api.Errno { return of(strait.Arrive(late(0), nil, nil, nil, bursts(n), 1)) }, api.ErrArg},
		{"strait.Check's delay", most, func(n int) api.Errno { return strait.Check(late(n)) }, api.ErrArg},
		{"strait.Join's delay", most - 9, func(n int) api.Errno { return of(strait.Join(late(n), late(9))) }, api.ErrArg},
		{"strait.Join's taps", 63, func(n int) api.Errno { return of(strait.Join(through(n), through(2))) }, api.ErrTaps},
		{"strait.Check's taps", 64, func(n int) api.Errno { return strait.Check(through(n)) }, api.ErrTaps},
		{"feedback.Echo", most, func(n int) api.Errno { return of(feedback.Echo(taps(1), numbers(n))) }, api.ErrArg},
		{"feedback.Check", 64, func(n int) api.Errno { return feedback.Check(taps(n)) }, api.ErrTaps},
		{"tempo.At", most, func(n int) api.Errno { return of(tempo.At(tempo.Clock{From: 0, Num: 1, Den: 1}, n)) }, api.ErrArg},
		{"tempo.At from", most, func(n int) api.Errno { return of(tempo.At(tempo.Clock{From: n, Num: 1, Den: 1}, 0)) }, api.ErrArg},
		{"tempo.At by", 65536, func(n int) api.Errno { return of(tempo.At(tempo.Clock{From: 0, Num: n, Den: 1}, 0)) }, api.ErrArg},
		{"tempo.Pick", most, func(n int) api.Errno { return of(tempo.Pick(tempo.Clock{From: 0, Num: 1, Den: 1}, samples(n), 1)) }, api.ErrArg},
		{"tempo.Slide", most - 5, func(n int) api.Errno { return of(tempo.Slide(samples(n), 0, 5)) }, api.ErrArg},
		{"tempo.Slide by", 1024, func(n int) api.Errno { return of(tempo.Slide(nil, 0, n)) }, api.ErrArg},
		{"tempo.Slide back", 1024, func(n int) api.Errno { return of(tempo.Slide(samples(2000), 0, -n)) }, api.ErrArg},
		{"tempo.Energies' period", 8, func(n int) api.Errno { return of(tempo.Energies(samples(99), n, 0, 1)) }, api.ErrArg},
		{"tempo.Energies' count", 64, func(n int) api.Errno { return of(tempo.Energies(samples(99), 1, 0, n)) }, api.ErrArg},
		{"tempo.Energies from", 98, func(n int) api.Errno { return of(tempo.Energies(samples(99), 1, n, 1)) }, api.ErrArg},
		{"hunt.Find", most, func(n int) api.Errno { return of(hunt.Find(append([]api.Sample{{V: 99}}, samples(n-1)...), 0, n)) }, api.ErrArg},
		{"hunt.Plan", most - 20, func(n int) api.Errno { return of(hunt.Plan(spikes(1), 1, 2, n, 1)) }, api.ErrArg},
		{"train.Auto", 4096, func(n int) api.Errno { return of(train.Auto(signs(n))) }, api.ErrArg},
		{"train.Against", most, func(n int) api.Errno { return of(train.Against(samples(n), 0, 1, nil)) }, api.ErrArg},
		{"train.Against signs", 4096, func(n int) api.Errno { return of(train.Against(nil, 0, 1, signs(n))) }, api.ErrArg},
		{"train.Raw", most, func(n int) api.Errno { return of(train.Plan{Order: 1, Rate: 1}.Raw(samples(n), 0, 1)) }, api.ErrArg},
		{"train.Raw's taps", 64, func(n int) api.Errno { return of(train.Plan{Order: 1, Rate: 1}.Raw(nil, 0, n)) }, api.ErrArg},
		{"train.Plan's guard", 4096, func(n int) api.Errno { return of(train.Plan{Order: 1, Rate: 1, Guard: n}.Length()) }, api.ErrArg},
		{"near.Echo", most, func(n int) api.Errno { return of(near.Echo(nil, nil, n)) }, api.ErrArg},
		{"near.Echo of", most, func(n int) api.Errno { return of(near.Echo(numbers(n), nil, 1)) }, api.ErrArg},
		{"near.Off", most, func(n int) api.Errno { return of(near.Off(samples(n), nil, nil)) }, api.ErrArg},
		{"near.Off of", most, func(n int) api.Errno { return of(near.Off(nil, numbers(n), nil)) }, api.ErrArg},
		{"soft.Decode", 16384, func(n int) api.Errno { return of3(soft.Decode(trellis.Short(), samples(n))) }, api.ErrArg},
	}
}

func byteLimits() []limit {
	const most = api.MaxMessage
	return []limit{
		{"weave.New", 64, func(n int) api.Errno { return of(weave.New(n, 1)) }, api.ErrArg},
		{"weave.New's steps", 64, func(n int) api.Errno { return of(weave.New(1, n)) }, api.ErrArg},
		{"weave.Out", 255, func(n int) api.Errno { return of(weave.Out(letters(2*n), 2)) }, api.ErrArg},
		{"weave.Back", 5, func(n int) api.Errno { return of3(weave.Back(n, 2, 3)) }, api.ErrArg},
		{"weave.Hit", 6, func(n int) api.Errno { return of(weave.Hit(0, n, 2, 3)) }, api.ErrArg},
		{"field.Sum", 512, func(n int) api.Errno { return of(field.Sum(make([]uint8, n), nil)) }, api.ErrArg},
		{"field.Of", 511, func(n int) api.Errno { return of(field.Of(make([]uint8, n))) }, api.ErrArg},
		{"reed.Check", 255, func(n int) api.Errno { return reed.Check(n, 64) }, api.ErrArg},
		{"reed.Words", most, func(n int) api.Errno { return of(reed.Words(letters(n), 255, 2)) }, api.ErrArg},
		{"mend.Locator", 255, func(n int) api.Errno { return of(mend.Locator(nil, n)) }, api.ErrArg},
		{"frame.Pack", 240, func(n int) api.Errno { return of(frame.Pack(frames(n))) }, api.ErrArg},
		{"frame.Pieces", most, func(n int) api.Errno { return of(frame.Pieces(15, 0, letters(n), 240)) }, api.ErrArg},
		{"frame.Pieces' size", 240, func(n int) api.Errno { return of(frame.Pieces(1, 0, "", n)) }, api.ErrArg},
		{"block.Check", 4096, func(n int) api.Errno { return blocks(n).Check() }, api.ErrArg},
		{"again.Take", 240, func(n int) api.Errno { x, _ := again.NewReceiver(1); return of3(x.Take(frames(n))) }, api.ErrForm},
		{"again.Offer", 240, func(n int) api.Errno { x, _ := again.NewSender(1, 1); return x.Offer(letters(n)) }, api.ErrArg},
		{"again.NewSender", 128, func(n int) api.Errno { return of(again.NewSender(n, 1)) }, api.ErrArg},
		{"text.Split", most, func(n int) api.Errno { return of(text.Split(1, letters(n), 249)) }, api.ErrArg},
		{"text.Split's size", 249, func(n int) api.Errno { return of(text.Split(1, "", n)) }, api.ErrArg},
		{"text.Fold", most, func(n int) api.Errno { return of(text.Fold(letters(n), 1000)) }, api.ErrArg},
		{"text.Fold's width", 1000, func(n int) api.Errno { return of(text.Fold("", n)) }, api.ErrArg},
		{"shore.Check's window", 128, func(n int) api.Errno { return talks(func(p *shore.Plan) { p.Window = n }) }, api.ErrArg},
		{"shore.Check's body", 240, func(n int) api.Errno { return talks(func(p *shore.Plan) { p.Body = n }) }, api.ErrArg},
		{"shore.Check's echo", 64, func(n int) api.Errno { return talks(func(p *shore.Plan) { p.Echo = n }) }, api.ErrArg},
		{"shore.Check's order", 8, func(n int) api.Errno { return talks(func(p *shore.Plan) { p.Order = n }) }, api.ErrArg},
	}
}

// TestLimits: a number that is a limit is allowed itself, one more is not.
func TestLimits(t *testing.T) {
	for _, l := range slices.Concat(bitLimits(), sampleLimits(), byteLimits()) {
		if e := l.call(l.most); e != api.OK {
			t.Error(l.name, l.most, e)
		}
		if e := l.call(l.most + 1); e != l.e {
			t.Error(l.name, l.most+1, e)
		}
	}
}
