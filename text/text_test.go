package text_test

import (
	"math"
	"math/rand"
	"slices"
	"strings"
	"testing"
	"unicode/utf8"

	"foghorn/api"
	"foghorn/text"
)

type P = text.Piece

// some is a text of runes, broken bytes, and runes that look like these.
func some(r *rand.Rand, n int) string {
	kinds := []string{"a", "\\", "é", "€", "😀", "\xff", "\xe2\x82", "\ufffd", "\x00", "\x7f", "\u0085", "\xed\xa0\x80", "\xc0\x80", "\n"}
	var out strings.Builder
	for range n {
		out.WriteString(kinds[r.Intn(len(kinds))])
	}
	return out.String()
}

func bodies(l []P) []string {
	var out []string
	for _, p := range l {
		out = append(out, p.Body)
	}
	return out
}

func TestP29_1Split(t *testing.T) {
	for _, c := range []struct {
		s    string
		size int
		want []string
	}{{"abcdé", 5, []string{"abcd", "é"}}, {"abcdé", 4, []string{"abcd", "é"}}, {"€€", 4, []string{"€", "€"}}, {"€", 2, []string{"\xe2\x82", "\xac"}}, {"", 9, []string{""}}, {"€ab", 1, []string{"\xe2", "\x82", "\xac", "a", "b"}}, {"€abc", 2, []string{"\xe2\x82", "\xaca", "bc"}}, {"a\xe2\x82", 2, []string{"a\xe2", "\x82"}}} {
		l, e := text.Split(7, c.s, c.size)
		if e != api.OK || !slices.Equal(bodies(l), c.want) {
			t.Errorf("Split: %q %d: %q %v", c.s, c.size, bodies(l), e)
		}
		for i, p := range l {
			if p.Id != 7 || p.At != i || p.Of != len(l) {
				t.Error("a piece:", p)
			}
		}
	}
	for _, c := range [][2]int{{1, 0}, {1, 250}, {1, -1}, {api.MaxMessage + 1, 9}, {0, math.MaxInt}} {
		if l, e := text.Split(1, strings.Repeat("a", c[0]), c[1]); l != nil || e != api.ErrArg {
			t.Error("Split:", c, e)
		}
	}
	if l, e := text.Split(1, strings.Repeat("a", api.MaxMessage), 1); len(l) != api.MaxMessage || e != api.OK {
		t.Error("the most pieces:", len(l), e)
	}
}

func TestP29_1Bytes(t *testing.T) {
	p := P{258, 0, 1, "a"}
	if s, e := text.Encode(p); s != "\x01\x02\x00\x00\x00\x01a" || e != api.OK {
		t.Errorf("Encode: %x %v", s, e)
	}
	if q, e := text.Decode("\x01\x02\x00\x00\x00\x01a"); q != p || e != api.OK {
		t.Error("Decode:", q, e)
	}
	last := P{65535, 32767, 32768, strings.Repeat("x", 249)}
	s, e := text.Encode(last)
	if q, f := text.Decode(s); q != last || e != api.OK || f != api.OK {
		t.Error("the greatest piece:", e, f)
	}
	for _, p := range []P{{1, 0, 0, ""}, {1, 1, 1, ""}, {1, -1, 1, ""}, {1, 0, 32769, ""}, {1, 0, 1, strings.Repeat("x", 250)}, {1, math.MaxInt, math.MaxInt, ""}} {
		if s, e := text.Encode(p); s != "" || e != api.ErrArg {
			t.Error("Encode:", p, e)
		}
		if _, _, e := text.New().Put(p); e != api.ErrArg {
			t.Error("Put:", p, e)
		}
	}
	for _, s := range []string{"", "\x00\x00\x00\x00\x00", "\x00\x00\x00\x01\x00\x01", "\x00\x00\x00\x00\x00\x00", "\x00\x00\x00\x00\x80\x01", "\x00\x00\x00\x00\x00\x01" + strings.Repeat("x", 250)} {
		if p, e := text.Decode(s); p != (P{}) || e != api.ErrForm {
			t.Errorf("Decode: %x %v %v", s, p, e)
		}
	}
}

func TestP29_2Box(t *testing.T) {
	b := text.New()
	put := func(p P, s string, whole bool, e api.Errno) {
		t.Helper()
		if got, ok, f := b.Put(p); got != s || ok != whole || f != e {
			t.Error("Put:", p, got, ok, f)
		}
	}
	put(P{1, 1, 2, "b"}, "", false, api.OK)
	if l, e := b.Missing(1); e != api.OK || !slices.Equal(l, []int{0}) {
		t.Error("Missing:", l, e)
	}
	put(P{1, 0, 3, "a"}, "", false, api.ErrUnlike)
	put(P{1, 1, 2, "c"}, "", false, api.ErrUnlike)
	put(P{1, 1, 2, "b"}, "", false, api.OK)
	put(P{9, 0, 1, "alone"}, "alone", true, api.OK)
	if l := b.Open(); !slices.Equal(l, []uint16{1}) {
		t.Error("Open:", l)
	}
	put(P{1, 0, 2, "a"}, "ab", true, api.OK)
	if l, e := b.Missing(1); l != nil || e != api.ErrNone || len(b.Open()) != 0 {
		t.Error("Missing of none:", l, e)
	}
	if e := b.Drop(1); e != api.ErrNone {
		t.Error("Drop of none:", e)
	}
	for id := range uint16(16) {
		put(P{20 - id, 1, 2, "x"}, "", false, api.OK)
	}
	if l := b.Open(); len(l) != 16 || !slices.IsSorted(l) {
		t.Error("Open:", l)
	}
	put(P{99, 0, 1, "x"}, "", false, api.ErrFull)
	put(P{20, 0, 3, "x"}, "", false, api.ErrUnlike)
	if e := b.Drop(20); e != api.OK || len(b.Open()) != 15 {
		t.Error("Drop:", e)
	}
	put(P{99, 0, 1, "x"}, "x", true, api.OK)
	full := strings.Repeat("x", 249)
	for at := range api.MaxMessage / 249 {
		put(P{99, at, 1000, full}, "", false, api.OK)
	}
	put(P{99, 500, 1000, full}, "", false, api.ErrFull)
	put(P{99, 501, 1000, full[:api.MaxMessage%249]}, "", false, api.OK)
	put(P{99, 502, 1000, "x"}, "", false, api.ErrFull)
	put(P{99, 502, 1000, ""}, "", false, api.OK)
	put(P{99, 0, 1000, full}, "", false, api.OK)
	if l, e := b.Missing(99); len(l) != 1000-133 || e != api.OK {
		t.Error("Missing:", len(l), e)
	}
	var none *text.Box
	_, _, e1 := none.Put(P{})
	_, e2 := none.Missing(1)
	if e3 := none.Drop(1); e1 != api.ErrNil || e2 != api.ErrNil || e3 != api.ErrNil || len(none.Open()) != 0 {
		t.Error("a nil box:", e1, e2, e3)
	}
	var made text.Box
	made.Put(P{1, 0, 2, "x"})
	made.Open()
}

func TestP29_3Shown(t *testing.T) {
	s := "a\xff\\\nC\u00e9"
	if got := text.Show("a\xff\\\né"); got != `a\xff\\\x0aé` {
		t.Error("Show:", got)
	}
	if got := text.Show("\u0085\x7f\ufffd\x1f \u00a0"); got != "\\xc2\\x85\\x7f\ufffd\\x1f \u00a0" {
		t.Error("Show:", got)
	}
	if got := text.Show("\u0080\u009f~\x7f"); got != `\xc2\x80\xc2\x9f~\x7f` {
		t.Error("Show:", got)
	}
	if runes, broken := text.Runes("a\xff\\\né"); runes != 4 || broken != 1 {
		t.Error("Runes:", runes, broken)
	}
	if runes, broken := text.Runes("\ufffd\xe2\x82"); runes != 1 || broken != 2 {
		t.Error("Runes:", runes, broken)
	}
	for _, c := range []struct {
		s     string
		width int
		want  []string
	}{{"abcde", 2, []string{"ab", "cd", "e"}}, {"", 2, nil}, {s, 3, []string{`a\xff\\`, `\x0aCé`}}, {"abcd", 2, []string{"ab", "cd"}}} {
		if l, e := text.Fold(c.s, c.width); e != api.OK || !slices.Equal(l, c.want) {
			t.Error("Fold:", c, l, e)
		}
	}
	for _, c := range [][2]int{{1, 0}, {1, 1001}, {api.MaxMessage + 1, 1}, {0, -1}} {
		if l, e := text.Fold(strings.Repeat("a", c[0]), c[1]); l != nil || e != api.ErrArg {
			t.Error("Fold:", c, e)
		}
	}
	if l, e := text.Fold(strings.Repeat("a", api.MaxMessage), 1000); len(l) != 33 || e != api.OK {
		t.Error("the longest Fold:", len(l), e)
	}
}

func TestP29_4Together(t *testing.T) {
	r := rand.New(rand.NewSource(1))
	for range 300 {
		s, size := some(r, r.Intn(30)), 1+r.Intn(12)
		l, _ := text.Split(3, s, size)
		if strings.Join(bodies(l), "") != s {
			t.Fatalf("the bodies: %q", s)
		}
		runes, broken := 0, 0
		for _, p := range l {
			a, b := text.Runes(p.Body)
			runes, broken = runes+a, broken+b
			encoded, _ := text.Encode(p)
			back, e := text.Decode(encoded)
			if again, _ := text.Encode(back); back != p || again != encoded || e != api.OK || len(p.Body) > size || len(p.Body) == 0 && len(l) > 1 {
				t.Fatal("a piece:", p)
			}
		}
		if a, b := text.Runes(s); size >= 4 && (a != runes || b != broken) {
			t.Fatalf("a rune is cut: %q %d", s, size)
		}
		b := text.New()
		told := 0
		order := append(r.Perm(len(l)), r.Perm(len(l))...)
		seen := map[int]bool{}
		for _, at := range order {
			b.Put(P{9, r.Intn(5), 50, "other"})
			got, whole, e := b.Put(l[at])
			if seen[at] = true; e != api.OK || whole && (got != s || len(seen) != len(l)) {
				t.Fatalf("Put: %q %v %v", got, whole, e)
			}
			if whole {
				told++
				break
			}
		}
		if told != 1 {
			t.Fatal("told:", told)
		}
	}
}

func TestP29_5Shown(t *testing.T) {
	r := rand.New(rand.NewSource(2))
	shown := map[string]string{}
	for range 3000 {
		s := some(r, r.Intn(5))
		out := text.Show(s)
		if before, ok := shown[out]; ok && before != s {
			t.Fatalf("shown alike: %q %q", s, before)
		}
		shown[out] = s
		l, _ := text.Fold(s, 1+r.Intn(4))
		if strings.Join(l, "") != out || !utf8.ValidString(out) {
			t.Fatalf("Fold: %q", s)
		}
		for _, letter := range out {
			if letter < 0x20 || letter >= 0x7f && letter <= 0x9f {
				t.Fatalf("Show: %q", out)
			}
		}
	}
}
