// Package divide is layer 2: naturals that are divided. See shared/doc/02-divide.md.
package divide

import (
	"math/bits"
	"strings"

	"abacist/api"
	"abacist/nat"
)

// Most is how many bytes a power, or a shifted number, has at most.
const Most = 1024

// DivMod is how often b is in a, and what is left; ErrZero, if b is 0.
func DivMod(a, b string) (q, r string, e api.Errno) {
	v := limbsOf(b)
	if len(v) == 0 {
		return "", "", api.ErrZero
	}
	often, left := divided(limbsOf(a), v)
	return often.text(), left.text(), api.OK
}

// Gcd is the greatest number that divides both; of 0 and another one that, of two 0 0.
func Gcd(a, b string) string {
	u, v := limbsOf(a), limbsOf(b)
	for len(v) > 0 {
		_, left := divided(u, v)
		u, v = v, left
	}
	return u.text()
}

// Pow is a's n-th power; ErrArg, if n is below 0; ErrLong, if it has more than Most bytes.
func Pow(a string, n int) (string, api.Errno) {
	if n < 0 {
		return "", api.ErrArg
	}
	a = nat.Trim(a)
	if n == 0 {
		return nat.Of(1), api.OK
	}
	above := nat.Bits(a) - 1
	if above <= 0 {
		return a, api.OK
	}
	// The power has more than above*n bits: this keeps what is reckoned short, however great n is.
	if n > (8*Most-1)/above {
		return "", api.ErrLong
	}
	power := nat.Of(1)
	for bit := bits.Len(uint(n)) - 1; bit >= 0; bit-- {
		power = nat.Mul(power, power)
		if n>>bit&1 == 1 {
			power = nat.Mul(power, a)
		}
	}
	if len(power) > Most {
		return "", api.ErrLong
	}
	return power, api.OK
}

// Shl is a times 2^n; ErrArg, if n is below 0; ErrLong, if it has more than Most bytes.
func Shl(a string, n int) (string, api.Errno) {
	if n < 0 {
		return "", api.ErrArg
	}
	has := nat.Bits(a)
	if has == 0 {
		return "", api.OK
	}
	if n > 8*Most-has {
		return "", api.ErrLong
	}
	return nat.Mul(a, twoTo(n)), api.OK
}

// Shr is how often 2^n is in a; a itself, if n is below 0.
func Shr(a string, n int) string {
	a = nat.Trim(a)
	if n <= 0 {
		return a
	}
	if n >= nat.Bits(a) {
		return ""
	}
	a = a[:len(a)-n/8]
	shifted := make([]byte, len(a))
	ahead := uint(0)
	for i := range shifted {
		both := ahead<<8 | uint(a[i])
		shifted[i] = byte(both >> (n % 8))
		ahead = both & 0xff
	}
	return nat.Trim(string(shifted))
}

// Root is the greatest number whose square is not above a.
func Root(a string) string {
	has := nat.Bits(a)
	if has == 0 {
		return ""
	}
	// Newton's steps from above the root go down until they are at it.
	root := twoTo((has + 1) / 2)
	for {
		often, _, _ := DivMod(a, root)
		next := Shr(nat.Add(root, often), 1)
		if nat.Cmp(next, root) >= 0 {
			return root
		}
		root = next
	}
}

// twoTo is 2^n, of an n that is not below 0.
func twoTo(n int) string {
	return string([]byte{1 << (n % 8)}) + strings.Repeat("\x00", n/8)
}
