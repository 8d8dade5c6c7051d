package divide

import (
	"math/bits"

	"abacist/nat"
)

// limbs is a natural whose digits have base 2^32, the lowest first, with no 0 at the end.
type limbs []uint32

func limbsOf(a string) limbs {
	a = nat.Trim(a)
	l := make(limbs, 0, (len(a)+3)/4)
	for end := len(a); end > 0; end -= 4 {
		x, _ := nat.Small(a[max(0, end-4):end])
		l = append(l, uint32(x))
	}
	return l
}

func (l limbs) text() string {
	t := make([]byte, 0, 4*len(l))
	for i := len(l) - 1; i >= 0; i-- {
		x := l[i]
		t = append(t, byte(x>>24), byte(x>>16), byte(x>>8), byte(x))
	}
	return nat.Trim(string(t))
}

func (l limbs) trim() limbs {
	for len(l) > 0 && l[len(l)-1] == 0 {
		l = l[:len(l)-1]
	}
	return l
}

// up is l times 2^by, by below 32, with one limb more than l.
func (l limbs) up(by int) limbs {
	out := make(limbs, len(l)+1)
	for i, x := range l {
		wide := uint64(x) << by
		out[i] |= uint32(wide)
		out[i+1] = uint32(wide >> 32)
	}
	return out
}

// down is how often 2^by, by below 32, is in l.
func (l limbs) down(by int) limbs {
	out := make(limbs, len(l))
	above := uint64(0)
	for i := len(l) - 1; i >= 0; i-- {
		above = above<<32 | uint64(l[i])
		out[i] = uint32(above >> by)
	}
	return out.trim()
}

// divided is how often v, that is not 0, is in u, and what is left.
func divided(u, v limbs) (q, r limbs) {
	if len(u) < len(v) {
		return nil, u
	}
	if len(v) == 1 {
		return byLimb(u, v[0])
	}
	// With v's highest bit set a digit is guessed at most two too great from two limbs.
	by := bits.LeadingZeros32(v[len(v)-1])
	left, v := u.up(by), v.up(by)[:len(v)]
	q = make(limbs, len(u)-len(v)+1)
	for at := len(q) - 1; at >= 0; at-- {
		part := left[at : at+len(v)+1]
		q[at] = digit(part, v)
		if takeTimes(part, v, q[at]) {
			q[at]--
			putBack(part, v)
		}
	}
	return q.trim(), left.down(by)
}

// byLimb is how often d, that is not 0, is in u, and what is left.
func byLimb(u limbs, d uint32) (q, r limbs) {
	q = make(limbs, len(u))
	left := uint64(0)
	for i := len(u) - 1; i >= 0; i-- {
		left = left<<32 | uint64(u[i])
		q[i] = uint32(left / uint64(d))
		left %= uint64(d)
	}
	return q.trim(), limbs{uint32(left)}.trim()
}

// digit is how often v is in part, that has one limb more than v, or one more.
func digit(part, v limbs) uint32 {
	top := len(v)
	ahead := uint64(part[top])<<32 | uint64(part[top-1])
	first, second := uint64(v[top-1]), uint64(v[top-2])
	guess, left := ahead/first, ahead%first
right:
	for {
		switch {
		case left>>32 > 0: // second can not show any more that the guess is too great
			break right
		case guess>>32 > 0, guess*second > left<<32|uint64(part[top-2]):
			guess--
			left += first
		default:
			break right
		}
	}
	return uint32(guess)
}

// takeTimes takes v so many times from part; true: it was more than there was, and a limb above is owed.
func takeTimes(part, v limbs, times uint32) bool {
	carry, borrow := uint64(0), uint32(0)
	for i := range part {
		if i < len(v) {
			carry += uint64(v[i]) * uint64(times)
		}
		part[i], borrow = bits.Sub32(part[i], uint32(carry), borrow)
		carry >>= 32
	}
	return borrow > 0
}

// putBack puts v, once, into part from which it was taken once too often.
func putBack(part, v limbs) {
	carry := uint32(0)
	for i, x := range v {
		part[i], carry = bits.Add32(part[i], x, carry)
	}
	part[len(v)] += carry
}
