package console

import (
	"strconv"
	"strings"

	"foghorn/api"
)

const hex = "0123456789abcdef"

// refusal is how an order gives up: it is recovered at the face.
type refusal api.Errno

func refuse(e api.Errno) { panic(refusal(e)) }

// must refuses what a call answers by an error.
func must(e api.Errno) {
	if e != api.OK {
		refuse(e)
	}
}

func (r refusal) told() string { return "error " + strconv.Itoa(int(r)) }

// words are those of an order that are not read yet. Whoever asks for one that is not of the form gives up.
type words struct{ left []string }

func (w *words) next() string {
	if len(w.left) == 0 {
		refuse(api.ErrForm)
	}
	word := w.left[0]
	w.left = w.left[1:]
	return word
}

func (w *words) end() {
	if len(w.left) > 0 {
		refuse(api.ErrForm)
	}
}

func (w *words) number() int64 {
	word := w.next()
	n, err := strconv.ParseInt(word, 10, 64)
	if err != nil || strconv.FormatInt(n, 10) != word {
		refuse(api.ErrForm)
	}
	return n
}

func (w *words) count() int { return int(w.number()) }

// numbers are all that are left.
func (w *words) numbers() []int64 {
	var out []int64
	for len(w.left) > 0 {
		out = append(out, w.number())
	}
	return out
}

// bytes reads an even number of digits, or - for none.
func (w *words) bytes() string {
	word := w.next()
	if word == "-" {
		return ""
	}
	out := make([]byte, len(word)/2)
	for i := range len(word) {
		digit := strings.IndexByte(hex, word[i])
		if digit < 0 || len(word)%2 != 0 {
			refuse(api.ErrForm)
		}
		out[i/2] = out[i/2]<<4 | byte(digit)
	}
	return string(out)
}

// one reads one of two words: which of them it is.
func (w *words) one(first, second string) int {
	switch w.next() {
	case first:
		return 0
	case second:
		return 1
	}
	refuse(api.ErrForm)
	return 0
}

// pairs are numbers two by two, divided; an odd number of them is refused.
func pairs(l []int64, by float64) []complex128 {
	if len(l)%2 != 0 {
		refuse(api.ErrArg)
	}
	var out []complex128
	for i := 0; i < len(l); i += 2 {
		out = append(out, complex(float64(l[i])/by, float64(l[i+1])/by))
	}
	return out
}

// line is an answer of words.
func line(first string, rest ...string) string {
	return strings.Join(append([]string{first}, rest...), " ")
}

// ok is an answer of one line.
func ok(rest ...string) []string { return []string{line("ok", rest...)} }

func told(l ...int) []string {
	out := make([]string, len(l))
	for i, n := range l {
		out[i] = strconv.Itoa(n)
	}
	return out
}

func toldBytes(s string) string {
	if s == "" {
		return "-"
	}
	out := make([]byte, 0, 2*len(s))
	for i := range len(s) {
		out = append(out, hex[s[i]>>4], hex[s[i]&15])
	}
	return string(out)
}

// toldTaps are taps by their parts, in steps.
func toldTaps(l []complex128) []string {
	var out []string
	for _, z := range l {
		out = append(out, told(int(real(z)*tapSteps), int(imag(z)*tapSteps))...)
	}
	return out
}
