package reed_test

import (
	"math"
	"math/rand"
	"slices"
	"strings"
	"testing"

	"foghorn/api"
	"foghorn/field"
	"foghorn/reed"
)

var noChecks = []int{math.MinInt, -2, 0, 1, 3, 63, 65, 66, math.MaxInt}

func some(r *rand.Rand, n int) string {
	b := make([]byte, n)
	r.Read(b)
	return string(b)
}

func xor(a, b string) string {
	out := []byte(a)
	for i := range out {
		out[i] ^= b[i]
	}
	return string(out)
}

func TestP19_1Check(t *testing.T) {
	for _, c := range [][2]int{{255, 64}, {3, 2}, {65, 64}, {255, 2}} {
		if e := reed.Check(c[0], c[1]); e != api.OK {
			t.Error("Check:", c, e)
		}
	}
	for _, c := range [][2]int{{256, 2}, {2, 2}, {9, 3}, {99, 66}, {3, 0}, {64, 64}, {0, 2}, {-1, -2}, {math.MaxInt, 2}} {
		if e := reed.Check(c[0], c[1]); e != api.ErrArg {
			t.Error("Check:", c, e)
		}
	}
	if g, e := reed.Generator(2); e != api.OK || !slices.Equal(g, []uint8{2, 3, 1}) {
		t.Error("Generator:", g, e)
	}
	g, e := reed.Generator(64)
	if e != api.OK || len(g) != 65 || g[64] != 1 {
		t.Error("Generator:", len(g), e)
	}
	for i := range 64 {
		if y, _ := field.At(g, field.Exp(i)); y != 0 {
			t.Error("no root:", i)
		}
	}
	for _, r := range noChecks {
		if g, e := reed.Generator(r); g != nil || e != api.ErrArg {
			t.Error("Generator:", r, e)
		}
	}
}

func TestP19_2Codewords(t *testing.T) {
	for _, c := range [][2]string{{"\x01", "\x01\x03\x02"}, {"\x00", "\x00\x00\x00"}} {
		if w, e := reed.Encode(c[0], 2); w != c[1] || e != api.OK {
			t.Errorf("Encode: %x %v", w, e)
		}
		if ok, e := reed.Whole(c[1], 2); !ok || e != api.OK {
			t.Errorf("Whole: %x %v", c[1], e)
		}
		if d, e := reed.Data(c[1], 2); d != c[0] || e != api.OK {
			t.Errorf("Data: %x %v", d, e)
		}
	}
	bad := "\x01\x03\x03"
	if ok, e := reed.Whole(bad, 2); ok || e != api.OK {
		t.Error("Whole:", ok, e)
	}
	if s, e := reed.Syndromes(bad, 2); e != api.OK || !slices.Equal(s, []uint8{1, 1}) {
		t.Error("Syndromes:", s, e)
	}
	if d, e := reed.Data(bad, 2); d != "" || e != api.ErrNone {
		t.Error("Data:", d, e)
	}
	for _, c := range []struct{ n, r int }{{0, 2}, {254, 2}, {192, 64}, {1, 3}, {1, 0}, {1, 66}} {
		if w, e := reed.Encode(strings.Repeat("x", c.n), c.r); w != "" || e != api.ErrArg {
			t.Error("Encode:", c, e)
		}
	}
	for _, c := range []struct{ n, r int }{{0, 2}, {2, 2}, {256, 2}, {64, 64}, {9, 3}, {9, -2}} {
		word := strings.Repeat("\x00", c.n)
		if s, e := reed.Syndromes(word, c.r); s != nil || e != api.ErrArg {
			t.Error("Syndromes:", c, e)
		}
		if ok, e := reed.Whole(word, c.r); ok || e != api.ErrArg {
			t.Error("Whole:", c, e)
		}
		if d, e := reed.Data(word, c.r); d != "" || e != api.ErrArg {
			t.Error("Data:", c, e)
		}
	}
}

func TestP19_3Messages(t *testing.T) {
	words, e := reed.Words("hello", 4, 2)
	if e != api.OK || len(words) != 3 || len(words[0]) != 4 || len(words[1]) != 4 || len(words[2]) != 3 {
		t.Errorf("Words: %x %v", words, e)
	}
	if m, e := reed.Message(words, 2); m != "hello" || e != api.OK {
		t.Error("Message:", m, e)
	}
	if words, e := reed.Words("", 4, 2); len(words) != 0 || e != api.OK {
		t.Error("Words of none:", words, e)
	}
	if m, e := reed.Message(nil, 2); m != "" || e != api.OK {
		t.Error("Message of none:", m, e)
	}
	if n, e := reed.Apart("\x01\x03\x02", "\x00\x03\x00"); n != 2 || e != api.OK {
		t.Error("Apart:", n, e)
	}
	if n, e := reed.Apart("\x01", "\x01\x02"); n != 0 || e != api.ErrArg {
		t.Error("Apart:", n, e)
	}
	long := strings.Repeat("x", api.MaxMessage)
	words, e = reed.Words(long, 3, 2)
	if m, f := reed.Message(words, 2); m != long || e != api.OK || f != api.OK {
		t.Error("the longest message:", e, f)
	}
	if m, e := reed.Message(append(words, words[0]), 2); m != "" || e != api.ErrArg {
		t.Error("Message too long:", e)
	}
	if words, e := reed.Words(long+"x", 3, 2); words != nil || e != api.ErrArg {
		t.Error("Words of too long a message:", e)
	}
	for _, c := range [][2]int{{2, 2}, {256, 2}, {9, 3}} {
		if words, e := reed.Words("x", c[0], c[1]); words != nil || e != api.ErrArg {
			t.Error("Words:", c, e)
		}
	}
	for _, c := range []struct {
		words []string
		r     int
		e     api.Errno
	}{{[]string{"\x01\x03\x03", "xx"}, 2, api.ErrArg}, {[]string{"\x01\x03\x02", "\x01\x03\x03"}, 2, api.ErrNone}, {nil, 3, api.ErrArg}, {[]string{""}, 2, api.ErrArg}} {
		if m, e := reed.Message(c.words, c.r); m != "" || e != c.e {
			t.Error("Message:", c, m, e)
		}
	}
}

func TestP19_4To7Codewords(t *testing.T) {
	r := rand.New(rand.NewSource(1))
	for range 300 {
		checks := 2 * (1 + r.Intn(8))
		n := 1 + r.Intn(255-checks)
		data, other := some(r, n), some(r, n)
		a, _ := reed.Encode(data, checks)
		b, _ := reed.Encode(other, checks)
		if back, e := reed.Data(a, checks); back != data || e != api.OK || a[:n] != data || len(a) != n+checks {
			t.Fatal("Data of Encode:", n, checks)
		}
		if ok, _ := reed.Whole(xor(a, b), checks); !ok {
			t.Fatal("linear:", n, checks)
		}
		if n+checks < 255 {
			if ok, _ := reed.Whole("\x00"+a, checks); !ok {
				t.Fatal("a byte 0 ahead:", n, checks)
			}
		}
		if d, _ := reed.Apart(a, b); a != b && d <= checks {
			t.Fatal("too near:", n, checks, d)
		}
		changed := []byte(a)
		for _, at := range r.Perm(len(a))[:1+r.Intn(checks)] {
			changed[at] ^= byte(1 + r.Intn(255))
		}
		s, _ := reed.Syndromes(string(changed), checks)
		if ok, _ := reed.Whole(string(changed), checks); ok || slices.Max(s) == 0 {
			t.Fatal("changed, and a codeword:", n, checks)
		}
		if s, _ := reed.Syndromes(a, checks); slices.Max(s) != 0 || len(s) != checks {
			t.Fatal("a codeword's syndromes:", s)
		}
		message := some(r, r.Intn(600))
		words, _ := reed.Words(message, n+checks, checks)
		if back, e := reed.Message(words, checks); back != message || e != api.OK {
			t.Fatal("Message of Words:", n, checks, e)
		}
	}
}
