// Package nat is layer 1: naturals. See shared/doc/01-nat.md.
//
// A natural is a text of bytes, its digits of base 256, the highest first.
// Bytes 0 ahead count for nothing; what is answered has none.
package nat

import (
	"cmp"
	"iter"
	"math/bits"
	"strings"
)

// Trim is a without bytes 0 ahead.
func Trim(a string) string { return strings.TrimLeft(a, "\x00") }

// Of is the text of n.
func Of(n uint64) string {
	return Trim(text([]uint32{uint32(n), uint32(n >> 32)}))
}

// Small is a's number, and true, if it is below 2^64; else 0 and false.
func Small(a string) (uint64, bool) {
	a = Trim(a)
	if len(a) > 8 {
		return 0, false
	}
	n := uint64(0)
	for place, digit := range fromBehind(a) {
		n |= uint64(digit) << (8 * place)
	}
	return n, true
}

// Cmp is -1, 0 or 1, as a is below, as great as, or above b.
func Cmp(a, b string) int {
	a, b = Trim(a), Trim(b)
	return cmp.Or(cmp.Compare(len(a), len(b)), cmp.Compare(a, b))
}

// Bits is how many bits a has, without those 0 ahead.
func Bits(a string) int {
	a = Trim(a)
	if a == "" {
		return 0
	}
	return 8*(len(a)-1) + bits.Len8(a[0])
}

// Add is both together.
func Add(a, b string) string {
	if len(a) < len(b) {
		a, b = b, a
	}
	sum := make([]byte, len(a)+1)
	carry := uint(0)
	for place, digit := range fromBehind(a) {
		carry += uint(digit) + uint(digitAt(b, place))
		sum[len(a)-place] = byte(carry)
		carry >>= 8
	}
	sum[0] = byte(carry)
	return Trim(string(sum))
}

// Sub is a without b; 0, if b is greater.
func Sub(a, b string) string {
	if Cmp(a, b) <= 0 {
		return ""
	}
	left := make([]byte, len(a))
	borrow := 0
	for place, digit := range fromBehind(a) {
		here := int(digit) - int(digitAt(b, place)) - borrow
		borrow = 0
		if here < 0 {
			borrow = 1
		}
		left[len(a)-1-place] = byte(here)
	}
	return Trim(string(left))
}

// Mul is both times each other.
func Mul(a, b string) string {
	x, y := words(Trim(a)), words(Trim(b))
	product := make([]uint32, len(x)+len(y))
	for i, d := range x {
		// The greatest product of two words has room for two words more above it.
		carry := uint64(0)
		for j, e := range y {
			carry += uint64(d)*uint64(e) + uint64(product[i+j])
			product[i+j] = uint32(carry)
			carry >>= 32
		}
		product[i+len(y)] = uint32(carry)
	}
	return Trim(text(product))
}

// fromBehind goes over a's digits, the lowest first, each with its place.
func fromBehind(a string) iter.Seq2[int, byte] {
	return func(yield func(int, byte) bool) {
		for place := range len(a) {
			if !yield(place, a[len(a)-1-place]) {
				return
			}
		}
	}
}

// digitAt is the digit at a place, 0 where a has none.
func digitAt(a string, place int) byte {
	if place >= len(a) {
		return 0
	}
	return a[len(a)-1-place]
}

// words are a's digits four by four, the lowest first: one step of Mul does the work of sixteen.
func words(a string) []uint32 {
	l := make([]uint32, (len(a)+3)/4)
	for place, digit := range fromBehind(a) {
		l[place/4] |= uint32(digit) << (place % 4 * 8)
	}
	return l
}

// text is the digits of words, with those 0 ahead.
func text(words []uint32) string {
	digits := make([]byte, 4*len(words))
	for i := range digits {
		place := len(digits) - 1 - i
		digits[i] = byte(words[place/4] >> (place % 4 * 8))
	}
	return string(digits)
}
