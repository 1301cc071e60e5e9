// Package rules_test holds every call of every layer to the rules that hold everywhere: it hands them anything.
package rules_test

import (
	"fmt"
	"math"
	"math/rand"
	"reflect"
	"testing"

	"foghorn/again"
	"foghorn/api"
	"foghorn/bits"
	"foghorn/block"
	"foghorn/console"
	"foghorn/feedback"
	"foghorn/field"
	"foghorn/frame"
	"foghorn/grid"
	"foghorn/hard"
	"foghorn/hunt"
	"foghorn/load"
	"foghorn/mend"
	"foghorn/meter"
	"foghorn/mix"
	"foghorn/near"
	"foghorn/plane"
	"foghorn/points"
	"foghorn/pulse"
	"foghorn/reed"
	"foghorn/scramble"
	"foghorn/shore"
	"foghorn/slice"
	"foghorn/soft"
	"foghorn/strait"
	"foghorn/sums"
	"foghorn/tempo"
	"foghorn/text"
	"foghorn/tones"
	"foghorn/train"
	"foghorn/trellis"
	"foghorn/turns"
	"foghorn/weave"
)

// calls are all calls that keep nothing.
var calls = map[string]any{
	"bits.Of": bits.Of, "bits.Bytes": bits.Bytes, "bits.Words": bits.Words, "bits.Row": bits.Row, "bits.Gray": bits.Gray, "bits.Ungray": bits.Ungray, "bits.Xor": bits.Xor, "bits.Distance": bits.Distance, "bits.Weight": bits.Weight, "bits.Pad": bits.Pad, "bits.Pieces": bits.Pieces, "bits.Text": bits.Text, "bits.Parse": bits.Parse,
	"grid.On": grid.On, "grid.Near": grid.Near, "grid.Door": grid.Door, "grid.Check": grid.Check, "grid.Units": grid.Units, "grid.OfUnits": grid.OfUnits, "grid.Split": grid.Split, "grid.Join": grid.Join, "grid.Scale": grid.Scale, "grid.Of": grid.Of, "grid.Times": grid.Form.Times, "grid.Plus": grid.Form.Plus, "grid.Sum": grid.Form.Sum, "grid.Has": grid.Form.Has, "grid.Exact": grid.Form.Exact,
	"plane.Mul": plane.Mul, "plane.Sum": plane.Sum, "plane.Turn": plane.Turn, "plane.Conj": plane.Conj, "plane.Norm": plane.Norm, "plane.Apart": plane.Apart, "plane.Filter": plane.Filter, "plane.Whole": plane.Whole, "plane.Number": plane.Gauss.Number, "plane.Times": plane.Gauss.Times, "plane.By": plane.Gauss.By, "plane.GaussNorm": plane.Gauss.Norm, "plane.Gcd": plane.Gcd, "plane.Class": plane.Gauss.Class, "plane.First": plane.First, "plane.Depth": plane.Gauss.Depth,
	"points.Sizes": points.Sizes, "points.Bits": points.Bits, "points.Edge": points.Edge, "points.All": points.All, "points.At": points.At, "points.Label": points.Label, "points.Energy": points.Energy, "points.Turned": points.Turned, "points.Coset": points.Coset, "points.Row": points.Row, "points.Back": points.Back,
	"slice.Axis": slice.Axis, "slice.Cut": slice.Cut, "slice.Gap": slice.Gap, "slice.Decide": slice.Decide, "slice.Row": slice.Row, "slice.Lost": slice.Lost,
	"turns.Into": turns.Into, "turns.Out": turns.Out, "turns.Marked": turns.Marked, "turns.Bits": turns.Bits, "turns.Of": turns.Of, "turns.Points": turns.Points, "turns.Near": turns.Near, "turns.Row": turns.Row, "turns.Whole": turns.Whole, "turns.Found": turns.Found, "turns.Counts": turns.Counts,
	"pulse.Check": pulse.Check, "pulse.Named": pulse.Named, "pulse.Length": pulse.Length, "pulse.Shape": pulse.Shape, "pulse.Pick": pulse.Pick, "pulse.Touch": pulse.Touch, "pulse.Turned": pulse.Turned, "pulse.Stretch": pulse.Stretch,
	"mix.Up": mix.Up, "mix.Down": mix.Down, "mix.Carrier": mix.Carrier, "mix.Line": mix.Line, "mix.Unline": mix.Unline, "mix.Mirror": mix.Mirror, "mix.Share": mix.Share, "mix.Merge": mix.Merge,
	"tones.Entry": tones.Entry, "tones.Send": tones.Send, "tones.Back": tones.Back, "tones.Heard": tones.Heard, "tones.Pure": tones.Pure, "tones.Energy": tones.Energy, "tones.Round": tones.Round,
	"strait.Check": strait.Check, "strait.First": strait.First, "strait.Pass": strait.Pass, "strait.Arrive": strait.Arrive, "strait.Turned": strait.Turned, "strait.Halved": strait.Halved, "strait.Join": strait.Join,
	"feedback.Check": feedback.Check, "feedback.Echo": feedback.Echo, "feedback.Run": feedback.Run, "feedback.Residue": feedback.Residue,
	"tempo.At": tempo.At, "tempo.Long": tempo.Long, "tempo.Pick": tempo.Pick, "tempo.Energies": tempo.Energies, "tempo.Phase": tempo.Phase, "tempo.Slip": tempo.Slip, "tempo.Slide": tempo.Slide,
	"hunt.Find": hunt.Find, "hunt.Undo": hunt.Undo, "hunt.Guard": hunt.Guard, "hunt.Plan": hunt.Plan, "hunt.Shift": hunt.Shift,
	"train.Pair": train.Pair, "train.Auto": train.Auto, "train.Against": train.Against, "train.Length": train.Plan.Length, "train.Laid": train.Plan.Laid, "train.Raw": train.Plan.Raw, "train.Taps": train.Plan.Taps, "train.Step": train.Step,
	"near.Echo": near.Echo, "near.Add": near.Add, "near.Off": near.Off, "near.Learn": near.Learn, "near.Loud": near.Loud,
	"weave.In": weave.In, "weave.Out": weave.Out, "weave.Place": weave.Place, "weave.Back": weave.Back, "weave.Hit": weave.Hit, "weave.Marks": weave.Marks,
	"field.Plus": field.Plus, "field.Times": field.Times, "field.Over": field.Over, "field.Power": field.Power, "field.Exp": field.Exp, "field.Log": field.Log, "field.Sum": field.Sum, "field.Product": field.Product, "field.Divide": field.Divide, "field.Gcd": field.Gcd, "field.At": field.At, "field.Slope": field.Slope, "field.Roots": field.Roots, "field.Of": field.Of, "field.Through": field.Through,
	"reed.Check": reed.Check, "reed.Generator": reed.Generator, "reed.Encode": reed.Encode, "reed.Syndromes": reed.Syndromes, "reed.Whole": reed.Whole, "reed.Data": reed.Data, "reed.Apart": reed.Apart, "reed.Words": reed.Words, "reed.Message": reed.Message,
	"mend.Mend": mend.Mend, "mend.Within": mend.Within, "mend.All": mend.All, "mend.Message": mend.Message, "mend.Locator": mend.Locator,
	"trellis.Short": trellis.Short, "trellis.Long": trellis.Long, "trellis.Check": trellis.Code.Check, "trellis.States": trellis.Code.States, "trellis.Step": trellis.Code.Step, "trellis.From": trellis.Code.From, "trellis.Encode": trellis.Code.Encode, "trellis.Walk": trellis.Code.Walk, "trellis.Exact": trellis.Code.Exact, "trellis.Free": trellis.Code.Free, "trellis.Slips": trellis.Code.Slips,
	"hard.Marks": hard.Marks, "hard.Path": hard.Path, "hard.Cost": hard.Cost, "hard.Thin": hard.Thin, "hard.Fill": hard.Fill,
	"soft.Point": soft.Point, "soft.Send": soft.Send, "soft.Cost": soft.Cost, "soft.Path": soft.Path, "soft.Decode": soft.Decode, "soft.Ends": soft.Ends, "soft.Margin": soft.Margin,
	"sums.Sum16": sums.Sum16, "sums.Sum32": sums.Sum32, "sums.Bytes16": sums.Bytes16, "sums.Bytes32": sums.Bytes32, "sums.Row16": sums.Row16, "sums.Row32": sums.Row32, "sums.Fits16": sums.Fits16, "sums.Fits32": sums.Fits32, "sums.On16": sums.On16, "sums.On32": sums.On32, "sums.Joined32": sums.Joined32, "sums.Burst": sums.Burst, "sums.Sealed": sums.Sealed, "sums.Opened": sums.Opened,
	"frame.Pack": frame.Pack, "frame.Parse": frame.Parse, "frame.Scan": frame.Scan, "frame.Pieces": frame.Pieces, "frame.Join": frame.Join,
	"block.Check": block.Plan.Check, "block.Room": block.Plan.Room, "block.Places": block.Plan.Places, "block.Code": block.Plan.Code, "block.Points": block.Plan.Points, "block.Send": block.Plan.Send, "block.Hear": block.Plan.Hear, "block.Decode": block.Plan.Decode, "block.Receive": block.Plan.Receive,
	"load.Size": load.Size, "load.Cost": load.Cost, "load.Weight": load.Weight, "load.Most": load.Most, "load.Least": load.Least, "load.Squares": load.Squares, "load.Check": load.Check, "load.Deal": load.Deal, "load.Gather": load.Gather,
	"text.Split": text.Split, "text.Encode": text.Encode, "text.Decode": text.Decode, "text.Show": text.Show, "text.Runes": text.Runes, "text.Fold": text.Fold,
	"meter.Errors": meter.Errors, "meter.Runs": meter.Runs, "meter.Nearest": meter.Nearest, "meter.Open": meter.Open, "meter.Off": meter.Off, "meter.Power": meter.Power,
	"shore.Check": shore.Plan.Check, "console.Run": console.Run, "console.Text": console.Text,
}

// told beside an error: the chapters of these calls say that R4 does not hold for their places.
var placed = map[string]bool{"bits.Parse": true, "grid.Check": true}

// pick picks one of several.
func pick[T any](r *rand.Rand, l ...T) T { return l[r.Intn(len(l))] }

// source is where arguments come from: wild ones may be anything, the others are more often such as may be handed in.
type source struct {
	*rand.Rand
	wild bool
}

func (r source) whole() int64 {
	if !r.wild {
		return pick(r.Rand, 0, 1, 1, 2, 2, 3, 4, 4, 5, 6, 8, 16, int64(r.Intn(12)))
	}
	return pick[int64](r.Rand, math.MinInt64, math.MaxInt64, -1, 0, 13, 15, 17, 32, 40, 64, 65, 128, 255, 256, 257, 1024, 4096, 4097, 32768, 32769, 65535, 65536, 65537, 1<<20, 1<<30, 1<<40, math.MinInt32)
}

func (r source) part() float64 {
	if !r.wild {
		return pick(r.Rand, 0, 0, 0.25, -0.25, 0.5, 1, -1, 1, 3, -5)
	}
	return pick(r.Rand, math.NaN(), math.Inf(1), math.Inf(-1), math.Copysign(0, -1), 1024, 1025, -128, 1e300, math.SmallestNonzeroFloat64, 1.0/4096, 1.0/8192, 2.5e9)
}

func (r source) count(most int) int {
	if r.Intn(100) == 0 {
		return min(most, pick(r.Rand, 33, 65, 129, 257, 513, 4097, 32769, 65537))
	}
	return r.Intn(9)
}

// mayBe is a value of a type that may be handed in, if it is one of those of which few may.
func (r source) mayBe(t reflect.Type) (any, bool) {
	shape, _ := pulse.Named(pick(r.Rand, "tent", "spike"), pick(r.Rand, 1, 2, 4))
	plan := block.Plan{Size: pick(r.Rand, points.Sizes()...), Taps: 1 + r.Intn(2), Pair: 1 + r.Intn(2), Block: 1 + r.Intn(9), Words: 1 + r.Intn(2), Length: 11 + r.Intn(9), Checks: 2 + 2*r.Intn(2), Pulse: shape}
	switch t {
	case reflect.TypeFor[api.Pulse]():
		return shape, true
	case reflect.TypeFor[api.Strait]():
		return api.Strait{Rate: 1 + r.Intn(2), Delay: r.Intn(9), Taps: []complex128{pick[complex128](r.Rand, 1, 0.5i, -0.25), 0.25}}, true
	case reflect.TypeFor[trellis.Code]():
		return pick(r.Rand, trellis.Short(), trellis.Code{Length: 2, One: 3, Two: 2}, trellis.Long()), true
	case reflect.TypeFor[block.Plan]():
		return plan, true
	case reflect.TypeFor[shore.Plan]():
		plan.Length = 200
		return shore.Plan{Block: plan, Side: r.Intn(2), Window: 1, Body: r.Intn(9), Wait: 1, Order: 1 + r.Intn(8), Echo: r.Intn(3)}, true
	case reflect.TypeFor[train.Plan]():
		return train.Plan{Order: 1 + r.Intn(3), Rate: 1 + r.Intn(2), Guard: r.Intn(9)}, true
	case reflect.TypeFor[tempo.Clock]():
		return tempo.Clock{From: r.Intn(9), Num: 5 + r.Intn(9), Den: 1 + r.Intn(5)}, true
	case reflect.TypeFor[api.Frame]():
		return pick(r.Rand, api.Frame{Kind: 1, Number: uint8(r.Intn(5)), Body: "body"}, api.Frame{Kind: 2, Number: uint8(r.Intn(5)), Body: "sixteen bytes..."}), true
	case reflect.TypeFor[api.Found]():
		return api.Found{At: r.Intn(9), Size: 0.5, Quarters: r.Intn(9) - 4}, true
	case reflect.TypeFor[[]float64]():
		return []float64{1, 0.5}, true
	case reflect.TypeFor[[]int8]():
		return []int8{1, -1, 1, 1}, true
	case reflect.TypeFor[[]hard.Mark]():
		l := make([]hard.Mark, 2*r.Intn(20))
		for i := range l {
			l[i] = hard.Mark(r.Intn(3))
		}
		return l, true
	}
	return nil, false
}

// anything is any value of a type. Lists have room behind their ends.
func (r source) anything(t reflect.Type, most int) reflect.Value {
	v := reflect.New(t).Elem() // it can be set, and so can its parts
	if !r.wild && r.Intn(4) > 0 {
		if x, ok := r.mayBe(t); ok {
			v.Set(reflect.ValueOf(x))
			return v
		}
	}
	switch t.Kind() {
	case reflect.Bool:
		v.SetBool(r.Intn(2) == 1)
	case reflect.Int, reflect.Int8, reflect.Int16, reflect.Int32, reflect.Int64:
		v.SetInt(r.whole())
	case reflect.Uint8, reflect.Uint16, reflect.Uint32:
		v.SetUint(uint64(r.whole()))
	case reflect.Float64:
		v.SetFloat(r.part())
	case reflect.Complex128:
		v.SetComplex(complex(r.part(), r.part()))
	case reflect.String:
		b := make([]byte, r.count(most))
		r.Read(b)
		if r.Intn(2) == 0 {
			for i := range b {
				b[i] = "01abhi \n-"[b[i]%9]
			}
		}
		v.SetString(string(b))
	case reflect.Array, reflect.Struct:
		r.fill(v, most)
	case reflect.Slice:
		if n := r.count(most); n > 0 {
			v.Set(reflect.MakeSlice(t, n+3, n+3))
			if n > 600 { // a long list of one thing
				one := r.anything(t.Elem(), 3)
				for i := range n + 3 {
					v.Index(i).Set(one)
				}
			} else {
				r.fill(v, most)
			}
			v.Set(v.Slice(0, n))
		}
	}
	return v
}

func (r source) fill(v reflect.Value, most int) {
	if s, ok := v.Addr().Interface().(*api.Sample); ok && !r.wild {
		if r.Intn(9) == 0 {
			s.Lost = true
		} else {
			s.V = complex(r.part(), r.part())
		}
		return
	}
	if v.Kind() == reflect.Struct {
		for i := range v.NumField() {
			v.Field(i).Set(r.anything(v.Field(i).Type(), min(most, 70)))
		}
		return
	}
	for i := range v.Len() {
		v.Index(i).Set(r.anything(v.Type().Elem(), min(most, 70)))
	}
}

// arguments are those of a call; each may be a wild one.
func arguments(r *rand.Rand, call reflect.Type, most int) []reflect.Value {
	in := make([]reflect.Value, call.NumIn())
	for i := range in {
		in[i] = source{r, r.Intn(5) == 0}.anything(call.In(i), most)
	}
	return in
}

// lists are all lists in a value, each with its spare room.
func lists(v reflect.Value) []reflect.Value {
	var out []reflect.Value
	switch v.Kind() {
	case reflect.Slice:
		if v.Cap() > 0 {
			v = v.Slice(0, v.Cap())
			out = append(out, v)
		}
		if k := v.Type().Elem().Kind(); k != reflect.Slice && k != reflect.Struct {
			return out
		}
		fallthrough
	case reflect.Array:
		for i := range v.Len() {
			out = append(out, lists(v.Index(i))...)
		}
	case reflect.Struct:
		for i := range v.NumField() {
			out = append(out, lists(v.Field(i))...)
		}
	}
	return out
}

// mixed goes on with a number that stands for all that was gone through.
func mixed(n, with uint64) uint64 { return (n ^ with) * 0x9E3779B97F4A7C15 >> 1 * 3 }

// digest is a number that stands for a value: for what is behind its lists' ends, too, if room says so.
func digest(n uint64, v reflect.Value, room bool) uint64 {
	switch v.Kind() {
	case reflect.Bool:
		if v.Bool() {
			return mixed(n, 1)
		}
		return mixed(n, 2)
	case reflect.Int, reflect.Int8, reflect.Int16, reflect.Int32, reflect.Int64:
		return mixed(n, uint64(v.Int()))
	case reflect.Uint8, reflect.Uint16, reflect.Uint32:
		return mixed(n, v.Uint())
	case reflect.Float64:
		return mixed(n, bitsOf(v.Float()))
	case reflect.Complex128:
		return mixed(mixed(n, bitsOf(real(v.Complex()))), bitsOf(imag(v.Complex())))
	case reflect.String:
		for _, b := range []byte(v.String()) {
			n = mixed(n, uint64(b))
		}
		return mixed(n, uint64(v.Len()))
	case reflect.Slice, reflect.Array:
		n = mixed(n, uint64(v.Len()))
		if room && v.Kind() == reflect.Slice {
			v = v.Slice(0, v.Cap())
		}
		for i := range v.Len() {
			n = digest(n, v.Index(i), room)
		}
	case reflect.Struct:
		for i := range v.NumField() {
			n = digest(n, v.Field(i), room)
		}
	}
	return n
}

// bitsOf takes all that is no number for one.
func bitsOf(x float64) uint64 {
	if x != x {
		return 77
	}
	return math.Float64bits(x)
}

func digests(l []reflect.Value, room bool) uint64 {
	n := uint64(len(l))
	for _, v := range l {
		n = digest(n, v, room)
	}
	return n
}

// scribble writes over a list.
func scribble(v reflect.Value, with int) {
	for i := range v.Len() {
		switch x := v.Index(i); x.Kind() {
		case reflect.Bool:
			x.SetBool(with%2 == 0)
		case reflect.Int, reflect.Int8, reflect.Int16, reflect.Int32, reflect.Int64:
			x.SetInt(int64(with & 63))
		case reflect.Uint8, reflect.Uint16, reflect.Uint32:
			x.SetUint(uint64(with & 63))
		case reflect.Float64:
			x.SetFloat(float64(with))
		case reflect.Complex128:
			x.SetComplex(complex(float64(with), 0))
		case reflect.String:
			x.SetString(fmt.Sprint(with))
		}
	}
}

// gone goes over iterators twice, and leaves them once.
func gone(t *testing.T, name string, out []reflect.Value) {
	for _, v := range out {
		if v.Kind() != reflect.Func {
			continue
		}
		rounds := [2]uint64{}
		for i := range rounds {
			for a, b := range v.Seq2() {
				rounds[i] = digest(digest(rounds[i], a, false), b, false)
				for _, l := range lists(b) {
					scribble(l, i)
				}
			}
		}
		for range v.Seq2() {
			break
		}
		if rounds[0] != rounds[1] {
			t.Fatal("R8:", name)
		}
	}
}

func isIterator(out []reflect.Value) bool { return len(out) == 1 && out[0].Kind() == reflect.Func }

// checkAnswer holds an answer to R4: beside an error all is zero.
func checkAnswer(t *testing.T, name string, in, out []reflect.Value) {
	if len(out) == 0 || placed[name] {
		return
	}
	e, ok := out[len(out)-1].Interface().(api.Errno)
	if !ok || e == api.OK {
		return
	}
	for _, v := range out[:len(out)-1] {
		zero := v.IsZero() || v.Kind() == reflect.Slice && v.Len() == 0
		if !zero || v.Kind() == reflect.Float64 && math.Signbit(v.Float()) {
			t.Fatalf("R4: %s: %v beside error %d: %.300s", name, v, e, fmt.Sprint(in))
		}
	}
}

// checkShared holds an answer to R3: no two of its lists share memory. It leaves all of them written over.
func checkShared(t *testing.T, name string, out []reflect.Value) {
	var all []reflect.Value
	for _, v := range out {
		all = append(all, lists(v)...)
	}
	for i, l := range all {
		scribble(l, i+7)
	}
	marks := digests(out, true)
	for i, l := range all[:min(len(all), 20)] {
		scribble(l, i+7)
		if digests(out, true) != marks {
			t.Fatalf("R3: %s: two lists of one answer share memory", name)
		}
	}
}

func TestR1To4Calls(t *testing.T) {
	r := rand.New(rand.NewSource(1))
	for name, f := range calls {
		call := reflect.ValueOf(f)
		rounds := 800
		if call.Type().NumIn() == 0 {
			rounds = 2
		}
		for range rounds {
			in := arguments(r, call.Type(), 65537)
			before := digests(in, true)
			out := call.Call(in)
			if isIterator(out) {
				gone(t, name, out)
				continue
			}
			checkAnswer(t, name, in, out)
			first := digests(out, false)
			checkShared(t, name, out)
			if digests(in, true) != before {
				t.Fatalf("R3: %s changed its arguments, or handed them out: %.300s", name, fmt.Sprint(in))
			}
			if digests(call.Call(in), false) != first {
				t.Fatalf("R2: %s answers unlike: %.300s", name, fmt.Sprint(in))
			}
		}
	}
}

// objects are made by their package's own calls, or are nil, or were made otherwise.
func objects() map[string]func() any {
	plan := shore.Plan{Block: block.Plan{Size: 4, Taps: 1, Pair: 1, Block: 32, Words: 1, Length: 60, Checks: 4, Pulse: api.Pulse{Rate: 1, Taps: []float64{1}}}, Window: 1, Body: 4, Wait: 3, Order: 1, Echo: 1}
	return map[string]func() any{
		"feedback.Loop":     func() any { l, _ := feedback.New(16, []complex128{0.5i, 0.25}); return l },
		"near.Line":         func() any { l, _ := near.New([]complex128{0.5}); return l },
		"scramble.Register": func() any { x, _ := scramble.New(9, 17, 300); return x },
		"scramble.Number":   func() any { x, _ := scramble.For(99); return x },
		"weave.Loom":        func() any { l, _ := weave.New(3, 2); return l },
		"weave.Undo":        func() any { l, _ := weave.Undo(3, 2); return l },
		"again.Sender":      func() any { s, _ := again.NewSender(4, 2); return s },
		"again.Receiver":    func() any { x, _ := again.NewReceiver(4); return x },
		"text.Box":          func() any { return text.New() },
		"meter.Meter":       func() any { return meter.New() },
		"shore.Station":     func() any { s, _ := shore.New(plan); return s },
		"console.Console":   func() any { return console.New() },
		"nil":               func() any { return (*feedback.Loop)(nil) }, "nil line": func() any { return (*near.Line)(nil) }, "nil register": func() any { return (*scramble.Register)(nil) }, "nil loom": func() any { return (*weave.Loom)(nil) }, "nil sender": func() any { return (*again.Sender)(nil) }, "nil receiver": func() any { return (*again.Receiver)(nil) }, "nil box": func() any { return (*text.Box)(nil) }, "nil meter": func() any { return (*meter.Meter)(nil) }, "nil station": func() any { return (*shore.Station)(nil) }, "nil console": func() any { return (*console.Console)(nil) },
		"zero": func() any { return &feedback.Loop{} }, "zero line": func() any { return &near.Line{} }, "zero register": func() any { return &scramble.Register{} }, "zero loom": func() any { return &weave.Loom{} }, "zero sender": func() any { return &again.Sender{} }, "zero receiver": func() any { return &again.Receiver{} }, "zero box": func() any { return &text.Box{} }, "zero meter": func() any { return &meter.Meter{} }, "zero station": func() any { return &shore.Station{} }, "zero console": func() any { return &console.Console{} },
	}
}

func TestR1To4Objects(t *testing.T) {
	for name, made := range objects() {
		for seed := range int64(6) {
			one, two := reflect.ValueOf(made()), reflect.ValueOf(made())
			a, b := rand.New(rand.NewSource(seed)), rand.New(rand.NewSource(seed))
			for range 120 {
				n := a.Intn(one.NumMethod())
				if b.Intn(two.NumMethod()) != n {
					t.Fatal("methods")
				}
				told := [2]uint64{}
				for i, side := range []struct {
					r *rand.Rand
					m reflect.Value
				}{{a, one.Method(n)}, {b, two.Method(n)}} {
					in := arguments(side.r, side.m.Type(), 4097)
					before := digests(in, true)
					out := side.m.Call(in)
					checkAnswer(t, name+"."+one.Type().Method(n).Name, in, out)
					told[i] = digests(out, false)
					for _, v := range out {
						if v.Kind() == reflect.Slice && i == 0 { // what the caller writes into one's answers shows in none of its later ones
							for _, l := range lists(v) {
								scribble(l, 5)
							}
						}
					}
					if digests(in, true) != before {
						t.Fatal("R3:", name, one.Type().Method(n).Name)
					}
					for _, v := range in { // nor what he writes into his arguments afterwards
						for _, l := range lists(v) {
							scribble(l, 3)
						}
					}
				}
				if told[0] != told[1] {
					t.Fatal("R2, R3:", name, one.Type().Method(n).Name)
				}
			}
		}
	}
}

func TestR1Made(t *testing.T) {
	r := rand.New(rand.NewSource(2))
	for name, f := range map[string]any{"feedback.New": feedback.New, "near.New": near.New, "scramble.New": scramble.New, "scramble.For": scramble.For, "weave.New": weave.New, "weave.Undo": weave.Undo, "again.NewSender": again.NewSender, "again.NewReceiver": again.NewReceiver, "shore.New": shore.New} {
		call := reflect.ValueOf(f)
		for range 300 {
			out := call.Call(arguments(r, call.Type(), 300))
			if e := out[1].Interface().(api.Errno); (e == api.OK) == out[0].IsNil() {
				t.Fatal("made beside an error, or nothing without one:", name, e)
			}
		}
	}
	for range 100 {
		straits := [2]api.Strait{}
		for i := range straits {
			straits[i] = source{r, r.Intn(2) == 0}.anything(reflect.TypeFor[api.Strait](), 70).Interface().(api.Strait)
		}
		a, b := objects()["shore.Station"]().(*shore.Station), &shore.Station{}
		shore.Exchange(a, pick(r, a, b, nil), straits[0], straits[1], nil, nil, nil, nil)
	}
}
