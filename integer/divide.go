package integer

import (
	"math"
	"math/bits"
	"slices"

	"torsion/api"
)

// DivMod returns the integers q and r with a = q b + r and 0 <= r < |b|, and ErrZero if b = 0.
func DivMod(a, b api.Int) (api.Int, api.Int, api.Errno) {
	a, b = tidy(a), tidy(b)
	if len(b.Mag) == 0 {
		return api.Int{}, api.Int{}, api.ErrZero
	}
	quotient, rest := divide(a.Mag, b.Mag)
	rest = trim(rest)
	if a.Neg && len(rest) > 0 {
		// -a = -(q b + r) = -(q + 1) b + (b - r), for positive a and b.
		quotient = sum(trim(quotient), []uint32{1})
		rest = difference(b.Mag, rest)
	}
	return build(a.Neg != b.Neg, quotient), build(false, rest), api.OK
}

// divide returns the quotient and the remainder of a by b; b is not zero.
func divide(a, b []uint32) ([]uint32, []uint32) {
	if order(a, b) < 0 {
		return nil, slices.Clone(a)
	}
	if x, y, ok := words(a, b); ok {
		return ofWord(x / y), ofWord(x % y)
	}
	if len(b) == 1 {
		quotient := slices.Clone(a)
		rest := divideInPlace(quotient, b[0])
		return quotient, []uint32{rest}
	}
	return divideLong(a, b)
}

// divideInPlace replaces a by its quotient by b, and returns the remainder.
func divideInPlace(a []uint32, b uint32) uint32 {
	rest := uint64(0)
	for i := len(a) - 1; i >= 0; i-- {
		rest = rest<<32 | uint64(a[i])
		a[i] = uint32(rest / uint64(b))
		rest %= uint64(b)
	}
	return uint32(rest)
}

// divideLong returns the quotient and the remainder of a by b, which has at least two limbs and no more than a. It is Knuth's algorithm D: both are shifted so that the highest bit of the divisor is set, because the estimates of the quotient's limbs are good only then.
func divideLong(a, b []uint32) ([]uint32, []uint32) {
	n := len(b)
	shift := bits.LeadingZeros32(b[n-1])
	rest := shiftUp(a, shift)
	divisor := shiftUp(b, shift)[:n]
	quotient := make([]uint32, len(a)-n+1)
	for i := len(quotient) - 1; i >= 0; i-- {
		quotient[i] = divideOnce(rest[i:i+n+1], divisor)
	}
	return quotient, shiftDown(rest[:n], shift)
}

// divideOnce replaces all limbs of a but the highest one by the remainder of a by b, and returns the quotient; a has one limb more than b and is less than 2^32 b.
func divideOnce(a, b []uint32) uint32 {
	n := len(b)
	guess := estimate(a[n-2:], b[n-2:])
	if subtractMultiple(a, b, guess) {
		addBack(a[:n], b)
		guess--
	}
	return uint32(guess)
}

// estimate returns the quotient of the three highest limbs of a dividend by the two highest ones of the divisor, which is at most one more than the quotient of all limbs, but no more than 2^32 - 1.
func estimate(a, b []uint32) uint64 {
	high := uint64(a[2])<<32 | uint64(a[1])
	guess, rest := high/uint64(b[1]), high%uint64(b[1])
	for guess > math.MaxUint32 || guess*uint64(b[0]) > rest<<32|uint64(a[0]) {
		guess--
		rest += uint64(b[1])
		if rest > math.MaxUint32 {
			break // the remainder has outgrown what the lower limbs can take from it
		}
	}
	return guess
}

// subtractMultiple subtracts k b from a, which has one limb more than b, and reports whether the difference is negative. The highest limb of a is left as it is: it is no part of a remainder.
func subtractMultiple(a, b []uint32, k uint64) bool {
	n := len(b)
	carry := uint64(0)
	for i := range n {
		carry += k * uint64(b[i])
		low := uint32(carry)
		carry >>= 32
		if a[i] < low {
			carry++
		}
		a[i] -= low
	}
	return uint64(a[n]) < carry
}

// addBack adds b to a, which is as long, and drops the carry: with it a returns from below zero.
func addBack(a, b []uint32) {
	carry := uint64(0)
	for i := range len(b) {
		carry += uint64(a[i]) + uint64(b[i])
		a[i] = uint32(carry)
		carry >>= 32
	}
}
