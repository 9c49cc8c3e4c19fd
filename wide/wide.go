// Package wide is layer 1: see shared/doc/01-wide.md.
package wide

import (
	"cmp"
	"math/bits"

	"trunnion/api"
)

const wordBits = 64

// words are a number's words, the lower one first: that is the way a carry goes.
func words(a api.Wide) [2]uint64 { return [2]uint64{a.Lo, a.Hi} }

// fromWords is the number of these words.
func fromWords(w [2]uint64) api.Wide { return api.Wide{Hi: w[1], Lo: w[0]} }

// Of is a number.
func Of(n uint64) api.Wide { return api.Wide{Lo: n} }

// Add is a sum, modulo 2^128.
func Add(a, b api.Wide) api.Wide {
	other := words(b)
	var sum [2]uint64
	var carry uint64
	for i, word := range words(a) {
		sum[i], carry = bits.Add64(word, other[i], carry)
	}
	return fromWords(sum)
}

// Sub is a difference, modulo 2^128.
func Sub(a, b api.Wide) api.Wide {
	other := words(b)
	var rest [2]uint64
	var borrow uint64
	for i, word := range words(a) {
		rest[i], borrow = bits.Sub64(word, other[i], borrow)
	}
	return fromWords(rest)
}

// Mul is a product. It always fits: both factors have one word.
func Mul(a, b uint64) api.Wide {
	hi, lo := bits.Mul64(a, b)
	return api.Wide{Hi: hi, Lo: lo}
}

// Cmp holds two numbers against each other: -1, 0, 1, as a is below, the same as, above b.
func Cmp(a, b api.Wide) int {
	if c := cmp.Compare(a.Hi, b.Hi); c != 0 {
		return c
	}
	return cmp.Compare(a.Lo, b.Lo)
}

// Len is how many bits a number has, 0 of nought.
func Len(a api.Wide) int {
	if a.Hi != 0 {
		return wordBits + bits.Len64(a.Hi)
	}
	return bits.Len64(a.Lo)
}

// Left is a number times 2^n, modulo 2^128; the number itself, if n is below 0.
func Left(a api.Wide, n int) api.Wide {
	switch {
	case n <= 0:
		return a
	case n < wordBits:
		return api.Wide{Hi: a.Hi<<n | a.Lo>>(wordBits-n), Lo: a.Lo << n}
	case n < 2*wordBits:
		return api.Wide{Hi: a.Lo << (n - wordBits)}
	}
	return api.Wide{}
}

// Right is a number by 2^n, down, and whether something was lost; the number itself, if n is below 0.
func Right(a api.Wide, n int) (r api.Wide, lost bool) {
	r = down(a, n)
	// What can't be shifted back was lost: a bit that went out below is never brought in again.
	return r, Left(r, n) != a
}

// down is a number by 2^n without what is lost.
func down(a api.Wide, n int) api.Wide {
	switch {
	case n <= 0:
		return a
	case n < wordBits:
		return api.Wide{Hi: a.Hi >> n, Lo: a.Lo>>n | a.Hi<<(wordBits-n)}
	case n < 2*wordBits:
		return Of(a.Hi >> (n - wordBits))
	}
	return api.Wide{}
}

// Div is a number by another one, down, and the rest; ErrZero, if that other one is nought.
func Div(a api.Wide, b uint64) (q api.Wide, rest uint64, e api.Errno) {
	if b == 0 {
		return api.Wide{}, 0, api.ErrZero
	}
	// The upper word's rest is below b, so the lower word's quotient has one word.
	q.Lo, rest = bits.Div64(a.Hi%b, a.Lo, b)
	q.Hi = a.Hi / b
	return q, rest, api.OK
}

// Root is the greatest whole number whose square is not above a, and whether that square is below a.
func Root(a api.Wide) (r uint64, rest bool) {
	// A root has one word, so it is found bit by bit from that word's highest one on, and each square fits.
	for i := range wordBits {
		next := r | 1<<(wordBits-1-i)
		if Cmp(Mul(next, next), a) <= 0 {
			r = next
		}
	}
	return r, Mul(r, r) != a
}
