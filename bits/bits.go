// Package bits is layer 1: rows of bits; see shared/doc/01-bits.md.
package bits

import (
	"iter"
	"slices"

	"foghorn/api"
)

// MaxWidth is a word's greatest width.
const MaxWidth = 16

// maxMultiple is the greatest length of whose multiples Pad makes rows.
const maxMultiple = 4096

// Of are the bits of bytes.
func Of(s string) ([]bool, api.Errno) {
	if len(s) > api.MaxBits/8 {
		return nil, api.ErrArg
	}
	out := make([]bool, 0, 8*len(s))
	for i := range len(s) {
		out = appendWord(out, int(s[i]), 8)
	}
	return out, api.OK
}

// Bytes are the bytes whose bits they are.
func Bytes(l []bool) (string, api.Errno) {
	words, e := Words(l, 8)
	if e != api.OK {
		return "", e
	}
	out := make([]byte, len(words))
	for i, w := range words {
		out[i] = byte(w)
	}
	return string(out), api.OK
}

// Words are the words whose bits they are.
func Words(l []bool, width int) ([]int, api.Errno) {
	if !isWidth(width) || !isRow(l) || len(l)%width != 0 {
		return nil, api.ErrArg
	}
	out := make([]int, len(l)/width)
	for i := range out {
		for _, b := range l[i*width : (i+1)*width] {
			out[i] <<= 1
			if b {
				out[i] |= 1
			}
		}
	}
	return out, api.OK
}

// Row are the bits of words.
func Row(words []int, width int) ([]bool, api.Errno) {
	if !isWidth(width) || len(words) > api.MaxBits/width {
		return nil, api.ErrArg
	}
	out := make([]bool, 0, len(words)*width)
	for _, w := range words {
		if w < 0 || w >= 1<<width {
			return nil, api.ErrArg
		}
		out = appendWord(out, w, width)
	}
	return out, api.OK
}

// Gray is Gray's number of a number.
func Gray(n int) (int, api.Errno) {
	if !isGray(n) {
		return 0, api.ErrArg
	}
	return n ^ n>>1, api.OK
}

// Ungray is the number whose Gray's number it is.
func Ungray(n int) (int, api.Errno) {
	if !isGray(n) {
		return 0, api.ErrArg
	}
	// A number's bit is the parity of all bits from there up; each shift doubles how many of them are in.
	for shift := 1; shift < MaxWidth; shift <<= 1 {
		n ^= n >> shift
	}
	return n, api.OK
}

// Xor tells where just one of two rows is set.
func Xor(a, b []bool) ([]bool, api.Errno) {
	if !isRow(a) || len(a) != len(b) {
		return nil, api.ErrArg
	}
	out := make([]bool, len(a))
	for i := range out {
		out[i] = a[i] != b[i]
	}
	return out, api.OK
}

// Distance is at how many places two rows differ.
func Distance(a, b []bool) (int, api.Errno) {
	l, e := Xor(a, b)
	return Weight(l), e
}

// Weight is how many bits are set.
func Weight(l []bool) int {
	n := 0
	for _, b := range l {
		if b {
			n++
		}
	}
	return n
}

// Pad makes a row's length a multiple.
func Pad(l []bool, m int) ([]bool, api.Errno) {
	if !isRow(l) || m < 1 || m > maxMultiple {
		return nil, api.ErrArg
	}
	n := (len(l) + m - 1) / m * m
	if n > api.MaxBits {
		return nil, api.ErrArg
	}
	out := make([]bool, n)
	copy(out, l)
	return out, api.OK
}

// Pieces goes through a row, so many bits at a time.
func Pieces(l []bool, n int) iter.Seq2[int, []bool] {
	if n < 1 {
		return func(func(int, []bool) bool) {}
	}
	row := slices.Clone(l)
	n = min(n, max(len(row), 1)) // so that no place goes past the greatest int
	return func(yield func(int, []bool) bool) {
		for at := 0; at < len(row); at += n {
			if !yield(at, slices.Clone(row[at:min(at+n, len(row))])) {
				return
			}
		}
	}
}

// Text is a row as a text.
func Text(l []bool) string {
	out := make([]byte, len(l))
	for i, b := range l {
		out[i] = '0'
		if b {
			out[i] = '1'
		}
	}
	return string(out)
}

// Parse reads a row.
func Parse(s string) ([]bool, int, api.Errno) {
	out := make([]bool, 0, min(len(s), api.MaxBits))
	for at, letter := range s {
		if at == api.MaxBits || letter != '0' && letter != '1' {
			return nil, at, api.ErrForm
		}
		out = append(out, letter == '1')
	}
	return out, 0, api.OK
}

func isRow(l []bool) bool { return len(l) <= api.MaxBits }

func isWidth(width int) bool { return width >= 1 && width <= MaxWidth }

func isGray(n int) bool { return n >= 0 && n < 1<<MaxWidth }

func appendWord(out []bool, word, width int) []bool {
	for i := range width {
		out = append(out, word>>(width-1-i)&1 != 0)
	}
	return out
}
