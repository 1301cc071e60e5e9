package mend_test

import (
	"math"
	"math/rand"
	"reflect"
	"slices"
	"strings"
	"testing"

	"foghorn/api"
	"foghorn/field"
	"foghorn/mend"
	"foghorn/reed"
)

const (
	code = "\x01\x03\x02"
	off  = "\x01\x07\x02"
)

func some(r *rand.Rand, n int) string {
	b := make([]byte, n)
	r.Read(b)
	return string(b)
}

func same(a, b mend.Mended) bool {
	return a.Word == b.Word && slices.Equal(a.Wrong, b.Wrong) && slices.Equal(a.Lost, b.Lost)
}

func TestP20_1Mend(t *testing.T) {
	for _, c := range []struct {
		word string
		lost []int
		want mend.Mended
		e    api.Errno
	}{
		{code, nil, mend.Mended{Word: code}, api.OK}, {code, []int{2, 0}, mend.Mended{Word: code, Lost: []int{0, 2}}, api.OK}, {off, nil, mend.Mended{Word: code, Wrong: []int{1}}, api.OK},
		{"\x07\x07\x02", []int{0, 1}, mend.Mended{Word: code, Lost: []int{0, 1}}, api.OK}, {"\x01\x07\x07", nil, mend.Mended{}, api.ErrLost}, {off, []int{0}, mend.Mended{}, api.ErrLost}, {code, []int{0, 1, 2}, mend.Mended{}, api.ErrLost},
		{code, []int{3}, mend.Mended{}, api.ErrArg}, {code, []int{1, 1}, mend.Mended{}, api.ErrArg}, {code, []int{-1}, mend.Mended{}, api.ErrArg}, {code, []int{0, 1, 2, 0}, mend.Mended{}, api.ErrArg}, {"ab", nil, mend.Mended{}, api.ErrArg}, {strings.Repeat("x", 256), nil, mend.Mended{}, api.ErrArg}, {code, []int{math.MaxInt}, mend.Mended{}, api.ErrArg},
	} {
		if m, e := mend.Mend(c.word, 2, c.lost); !same(m, c.want) || e != c.e {
			t.Errorf("Mend: %x %v: %v %v", c.word, c.lost, m, e)
		}
	}
	for _, r := range []int{0, 1, 3, 66, -2} {
		if m, e := mend.Mend(code, r, nil); !same(m, mend.Mended{}) || e != api.ErrArg {
			t.Error("Mend:", r, m, e)
		}
	}
	for _, c := range []struct {
		word, code string
		lost       []int
		want       bool
		e          api.Errno
	}{{off, code, nil, true, api.OK}, {off, code, []int{1}, true, api.OK}, {off, code, []int{0}, false, api.OK}, {"\x07\x07\x02", code, []int{0, 1}, true, api.OK}, {code, "\x00\x00\x00", nil, false, api.OK}, {off, "\x01\x03\x03", nil, false, api.ErrArg}, {off, "\x00\x00\x00\x00", nil, false, api.ErrArg}, {off, "", nil, false, api.ErrArg}, {off, code, []int{3}, false, api.ErrArg}} {
		if ok, e := mend.Within(c.word, c.code, 2, c.lost); ok != c.want || e != c.e {
			t.Errorf("Within: %x %x %v: %v %v", c.word, c.code, c.lost, ok, e)
		}
	}
	if _, e := mend.Within(off, code, 3, nil); e != api.ErrArg {
		t.Error("Within:", e)
	}
}

func TestP20_2All(t *testing.T) {
	words := []string{off, "\x01\x07\x07", "\x00\x00\x00\x05"}
	out, refused, e := mend.All(words, 2, [][]int{nil, nil, {3}})
	if e != api.OK || !slices.Equal(refused, []int{1}) || len(out) != 3 || !same(out[0], mend.Mended{Word: code, Wrong: []int{1}}) || !same(out[1], mend.Mended{}) || !same(out[2], mend.Mended{Word: "\x00\x00\x00\x00", Lost: []int{3}}) {
		t.Error("All:", out, refused, e)
	}
	if s, e := mend.Message(words, 2, [][]int{nil, nil, {3}}); s != "" || e != api.ErrLost {
		t.Error("Message of a refused one:", s, e)
	}
	if s, e := mend.Message(words, 2, [][]int{nil, {1, 2}, {3}}); s != "\x01\x01\x00\x00" || e != api.OK {
		t.Errorf("Message: %x %v", s, e)
	}
	if out, refused, e := mend.All(nil, 2, nil); len(out)+len(refused) != 0 || e != api.OK {
		t.Error("All of none:", e)
	}
	many := slices.Repeat([]string{code}, api.MaxMessage+1)
	for _, c := range []struct {
		words []string
		r     int
		lost  [][]int
	}{{words, 2, [][]int{nil}}, {words, 3, [][]int{nil, nil, nil}}, {words, 2, [][]int{nil, {1, 1}, nil}}, {[]string{off, "x"}, 2, [][]int{nil, nil}}, {many, 2, make([][]int, len(many))}, {nil, 0, nil}} {
		if out, refused, e := mend.All(c.words, c.r, c.lost); out != nil || refused != nil || e != api.ErrArg {
			t.Error("All:", len(c.words), c.r, e)
		}
		if s, e := mend.Message(c.words, c.r, c.lost); s != "" || e != api.ErrArg {
			t.Error("Message:", len(c.words), c.r, e)
		}
	}
	if s, e := mend.Message(many[1:], 2, make([][]int, len(many)-1)); len(s) != api.MaxMessage || e != api.OK {
		t.Error("the longest Message:", e)
	}
	big := slices.Repeat([]string{strings.Repeat("\x00", 255)}, 130)
	big[0] = "\x01" + big[0][1:253] + "xx"
	if s, e := mend.Message(big, 2, make([][]int, 130)); s != "" || e != api.ErrArg {
		t.Error("Message too long:", len(s), e)
	}
}

func TestP20_3Locator(t *testing.T) {
	for _, c := range []struct {
		places []int
		n      int
		want   []uint8
		e      api.Errno
	}{{[]int{2}, 3, []uint8{1, 1}, api.OK}, {[]int{0, 2}, 3, []uint8{1, 5, 4}, api.OK}, {nil, 3, []uint8{1}, api.OK}, {nil, 1, []uint8{1}, api.OK}, {nil, 0, nil, api.ErrArg}, {nil, 256, nil, api.ErrArg}, {[]int{3}, 3, nil, api.ErrArg}, {[]int{-1}, 3, nil, api.ErrArg}, {[]int{1, 1}, 3, nil, api.ErrArg}} {
		if p, e := mend.Locator(c.places, c.n); e != c.e || !slices.Equal(p, c.want) {
			t.Error("Locator:", c, p, e)
		}
	}
	all := make([]int, 255)
	for i := range all {
		all[i] = i
	}
	p, e := mend.Locator(all, 255)
	if len(p) != 256 || e != api.OK {
		t.Error("Locator of all:", len(p), e)
	}
	for i := range 255 {
		if y, _ := field.At(p, field.Exp(-i)); y != 0 {
			t.Error("no root:", i)
		}
	}
}

// torn is a codeword at random, changed at wrong places, with f others lost.
func torn(r *rand.Rand, checks, wrong, f int) (whole, word string, at, lost []int) {
	n := max(checks+1, wrong+f) + r.Intn(255-max(checks+1, wrong+f)+1)
	whole, _ = reed.Encode(some(r, n-checks), checks)
	b := []byte(whole)
	places := r.Perm(n)
	at, lost = slices.Clone(places[:wrong]), places[wrong:wrong+f]
	for _, p := range at {
		b[p] ^= byte(1 + r.Intn(255))
	}
	for _, p := range lost {
		b[p] = byte(r.Intn(256))
	}
	slices.Sort(at)
	return whole, string(b), at, lost
}

func TestP20_4WithinReach(t *testing.T) {
	r := rand.New(rand.NewSource(1))
	for range 600 {
		checks := 2 * (1 + r.Intn(32))
		f := r.Intn(checks + 1)
		wrong := r.Intn((checks-f)/2 + 1)
		if r.Intn(2) == 0 {
			wrong = (checks - f) / 2
		}
		whole, word, at, lost := torn(r, checks, wrong, f)
		m, e := mend.Mend(word, checks, lost)
		slices.Sort(lost)
		if e != api.OK || !same(m, mend.Mended{Word: whole, Wrong: at, Lost: lost}) {
			t.Fatal("within reach:", checks, wrong, f, e)
		}
	}
}

func TestP20_5NeverAGuess(t *testing.T) {
	r := rand.New(rand.NewSource(2))
	told := 0
	for range 1500 {
		checks := 2 * (1 + r.Intn(3))
		f := r.Intn(checks + 1)
		whole, word, _, lost := torn(r, checks, (checks-f)/2+1+r.Intn(2), f)
		m, e := mend.Mend(word, checks, lost)
		if e == api.ErrLost && same(m, mend.Mended{}) {
			if ok, _ := mend.Within(word, whole, checks, lost); ok {
				t.Fatal("what was sent is within reach")
			}
			continue
		}
		told++
		if ok, f := mend.Within(word, m.Word, checks, lost); !ok || e != api.OK || f != api.OK {
			t.Fatal("told, and not within reach:", e, f)
		}
		if again, e := mend.Mend(m.Word, checks, nil); e != api.OK || again.Word != m.Word || len(again.Wrong) != 0 {
			t.Fatal("mended again:", e)
		}
	}
	if told == 0 {
		t.Error("no other codeword was ever within reach")
	}
	// All words of three bytes, of few numbers, against all codewords.
	var codes []string
	for d := range 256 {
		c, _ := reed.Encode(string([]byte{byte(d)}), 2)
		codes = append(codes, c)
	}
	for n := range 4096 {
		word := string([]byte{byte(n & 15), byte(n >> 4 & 15), byte(n >> 8)})
		for _, lost := range [][]int{nil, {1}, {2, 0}} {
			m, e := mend.Mend(word, 2, lost)
			want := ""
			for _, c := range codes {
				if ok, _ := mend.Within(word, c, 2, lost); ok {
					want = c
				}
			}
			if m.Word != want || (e == api.OK) != (want != "") {
				t.Fatalf("Mend: %x %v: %x %v, not %x", word, lost, m.Word, e, want)
			}
		}
	}
}

func TestP20_6Laid(t *testing.T) {
	r := rand.New(rand.NewSource(3))
	var words []string
	var lost [][]int
	for range 60 {
		_, word, _, l := torn(r, 8, r.Intn(6), r.Intn(6))
		other, _ := reed.Encode(some(r, len(word)-8), 8)
		over := []byte(word)
		for i := range over {
			over[i] ^= other[i]
		}
		a, e := mend.Mend(word, 8, l)
		b, f := mend.Mend(string(over), 8, l)
		for i := range a.Word {
			if a.Word[i]^other[i] != b.Word[i] {
				t.Fatal("laid over:", i)
			}
		}
		if e != f || !slices.Equal(a.Wrong, b.Wrong) {
			t.Fatal("laid over:", e, f)
		}
		words, lost = append(words, word), append(lost, l)
	}
	out, refused, e := mend.All(words, 8, lost)
	for i, word := range words {
		m, f := mend.Mend(word, 8, lost[i])
		if e != api.OK || !reflect.DeepEqual(m, out[i]) || slices.Contains(refused, i) != (f == api.ErrLost) {
			t.Fatal("as by itself:", i, e, f)
		}
	}
}
