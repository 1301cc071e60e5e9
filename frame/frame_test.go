package frame_test

import (
	"math"
	"math/rand"
	"slices"
	"strings"
	"testing"

	"foghorn/api"
	"foghorn/frame"
	"foghorn/sums"
)

type F = api.Frame

func some(r *rand.Rand) F {
	body := make([]byte, r.Intn(20))
	r.Read(body)
	return F{Kind: uint8(1 + r.Intn(15)), Number: uint8(r.Intn(256)), More: r.Intn(2) == 1, Body: string(body)}
}

func packed(t *testing.T, f F) string {
	s, e := frame.Pack(f)
	if e != api.OK {
		t.Fatal("Pack:", f, e)
	}
	return s
}

// headed are a frame's bytes with three bytes of one's own for a head, and a sum that fits.
func headed(a, b, c byte, body string) string {
	h := string([]byte{a, b, c})
	sum := sums.Bytes16(h)
	return h + string([]byte{byte(sum >> 8), byte(sum)}) + sums.Sealed(body)
}

func TestP25_1Bytes(t *testing.T) {
	f := F{Kind: 1, Number: 7, Body: "a"}
	want := "\x10\x07\x01\xca\xd5" + sums.Sealed("a")
	if s := packed(t, f); s != want || len(s) != 10 {
		t.Errorf("Pack: %x", s)
	}
	if g, n, e := frame.Parse(want + "rest"); g != f || n != 10 || e != api.OK {
		t.Error("Parse:", g, n, e)
	}
	f = F{Kind: 15, Number: 255, More: true, Body: strings.Repeat("x", 240)}
	if g, n, e := frame.Parse(packed(t, f)); g != f || n != 249 || e != api.OK {
		t.Error("Parse of the greatest:", n, e)
	}
	for _, f := range []F{{}, {Kind: 16}, {Kind: 255}, {Kind: 1, Body: strings.Repeat("x", 241)}} {
		if s, e := frame.Pack(f); s != "" || e != api.ErrArg {
			t.Error("Pack:", f, e)
		}
	}
	for _, s := range []string{"", want[:9], want[:5], "\x00\x00\x00\x00\x00\x00\x00\x00\x00", headed(0x12, 7, 1, "a"), headed(0x18, 7, 1, "a"), headed(0x00, 7, 1, "a"), headed(0x10, 7, 241, strings.Repeat("x", 241)), headed(0x10, 7, 2, "a"), "x" + want} {
		if g, n, e := frame.Parse(s); g != (F{}) || n != 0 || e != api.ErrForm {
			t.Errorf("Parse: %x: %v %v %v", s, g, n, e)
		}
	}
	if g, n, e := frame.Parse(headed(0x11, 7, 1, "a")); g != (F{Kind: 1, Number: 7, More: true, Body: "a"}) || n != 10 || e != api.OK {
		t.Error("Parse:", g, n, e)
	}
}

func TestP25_2Scan(t *testing.T) {
	a, b := F{Kind: 1, Body: "one"}, F{Kind: 2, Number: 9, More: true}
	s := "??" + packed(t, a) + packed(t, b) + "\x10" + packed(t, a)[:11]
	told := func() (at []int, l []F) {
		for i, f := range frame.Scan(s) {
			at, l = append(at, i), append(l, f)
		}
		return at, l
	}
	for range 2 {
		if at, l := told(); !slices.Equal(at, []int{2, 14}) || !slices.Equal(l, []F{a, b}) {
			t.Error("Scan:", at, l)
		}
	}
	for range frame.Scan(s) {
		for range frame.Scan(s) {
			break
		}
		break
	}
	for range frame.Scan("") {
		t.Error("a frame in no bytes")
	}
	n := 0
	for range frame.Scan(strings.Repeat(packed(t, a), 2000) + strings.Repeat("\x10", 30000)) {
		n++
	}
	if n != 2000 {
		t.Error("Scan of many:", n)
	}
}

func TestP25_3Pieces(t *testing.T) {
	l, e := frame.Pieces(2, 255, "hello", 2)
	if e != api.OK || !slices.Equal(l, []F{{Kind: 2, Number: 255, More: true, Body: "he"}, {Kind: 2, More: true, Body: "ll"}, {Kind: 2, Number: 1, Body: "o"}}) {
		t.Error("Pieces:", l, e)
	}
	if l, e := frame.Pieces(2, 0, "", 9); e != api.OK || !slices.Equal(l, []F{{Kind: 2}}) {
		t.Error("Pieces of none:", l, e)
	}
	if l, e := frame.Pieces(2, 0, "abcd", 2); e != api.OK || len(l) != 2 || l[1].More {
		t.Error("Pieces of whole ones:", l, e)
	}
	for _, c := range []struct {
		kind uint8
		n    int
		most int
	}{{0, 1, 1}, {16, 1, 1}, {1, api.MaxMessage + 1, 1}, {1, 1, 0}, {1, 1, 241}, {1, 1, -1}, {1, 1, math.MaxInt}} {
		if l, e := frame.Pieces(c.kind, 0, strings.Repeat("x", c.n), c.most); l != nil || e != api.ErrArg {
			t.Error("Pieces:", c, e)
		}
	}
	long := strings.Repeat("xy", api.MaxMessage/2)
	l, e = frame.Pieces(1, 7, long, 1)
	if s, f := frame.Join(l); s != long || e != api.OK || f != api.OK || len(l) != api.MaxMessage {
		t.Error("Join of the most:", e, f)
	}
	for _, c := range []struct {
		l []F
		e api.Errno
	}{
		{nil, api.ErrForm}, {[]F{{Kind: 1, More: true}}, api.ErrForm}, {[]F{{Kind: 1}, {Kind: 1, Number: 1}}, api.ErrForm}, {[]F{{Kind: 1, More: true}, {Kind: 2, Number: 1}}, api.ErrForm}, {[]F{{Kind: 1, More: true}, {Kind: 1, Number: 2}}, api.ErrForm}, {[]F{{Kind: 1, More: true}, {Kind: 1, Number: 255}}, api.ErrForm},
		{[]F{{Kind: 1}, {Kind: 16}}, api.ErrArg}, {[]F{{}}, api.ErrArg}, {[]F{{Kind: 1, Body: strings.Repeat("x", 241)}}, api.ErrArg},
	} {
		if s, e := frame.Join(c.l); s != "" || e != c.e {
			t.Error("Join:", c, s, e)
		}
	}
	many := make([]F, api.MaxMessage/240+1)
	for i := range many {
		many[i] = F{Kind: 1, Number: uint8(i), More: i < len(many)-1, Body: strings.Repeat("x", 240)}
	}
	if s, e := frame.Join(many); s != "" || e != api.ErrArg {
		t.Error("Join of too many bytes:", len(s), e)
	}
}

func TestP25_4Back(t *testing.T) {
	r := rand.New(rand.NewSource(1))
	for range 200 {
		var all string
		var l []F
		for range r.Intn(5) {
			f := some(r)
			s := packed(t, f)
			if g, n, e := frame.Parse(s + all); g != f || n != len(s) || n != len(f.Body)+frame.Over || e != api.OK {
				t.Fatal("Parse of Pack:", f, g, n, e)
			}
			all, l = all+s, append(l, f)
		}
		var got []F
		for _, f := range frame.Scan(all) {
			got = append(got, f)
		}
		if !slices.Equal(got, l) {
			t.Fatal("scanned:", l, got)
		}
		message := strings.Repeat("abc", r.Intn(100))
		pieces, _ := frame.Pieces(3, uint8(r.Intn(256)), message, 1+r.Intn(240))
		if s, e := frame.Join(pieces); s != message || e != api.OK {
			t.Fatal("Join of Pieces:", len(message), e)
		}
	}
}

func TestP25_5And6NeverAnother(t *testing.T) {
	r := rand.New(rand.NewSource(2))
	for range 2000 {
		f := some(r)
		s := []byte(packed(t, f))
		from, width := 0, 16
		if r.Intn(2) == 0 {
			from, width = 40, 32 // behind the head
		}
		at := from + r.Intn(8*len(s)-from)
		for i := at; i < min(8*len(s), at+width); i++ {
			if i == at || r.Intn(2) == 1 {
				s[i/8] ^= 0x80 >> (i % 8)
			}
		}
		if g, n, e := frame.Parse(string(s)); e != api.ErrForm {
			t.Fatal("another frame:", f, g, n, at)
		}
		noise := make([]byte, 60)
		r.Read(noise)
		noise[r.Intn(20)] = 0x10
		copy(noise[20:], packed(t, f))
		for at, g := range frame.Scan(string(noise)) {
			if p := packed(t, g); string(noise[at:at+len(p)]) != p {
				t.Fatal("its own sums:", at, g)
			}
		}
	}
}
