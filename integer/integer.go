// Package integer is layer 1: integers of any size. It is specified in doc/01-integer.md.
//
// No result shares memory with an argument or with another result. Arguments that are not valid are read as if their superfluous zero limbs, or the sign of their zero, were missing: the results are unspecified then, but every function returns.
package integer

import (
	"math"
	"math/bits"
	"slices"

	"torsion/api"
)

// Of returns n.
func Of(n int64) api.Int {
	size := uint64(n)
	if n < 0 {
		size = -size // wraps to 2^63 for -2^63, which has no positive counterpart in int64
	}
	return build(n < 0, ofWord(size))
}

// Valid reports whether the highest limb of a is not zero, and zero is not negative.
func Valid(a api.Int) bool {
	if len(a.Mag) == 0 {
		return !a.Neg
	}
	return a.Mag[len(a.Mag)-1] != 0
}

// Small returns a and true if a is in the range of int64, and 0 and false otherwise.
func Small(a api.Int) (int64, bool) {
	size, ok := word(trim(a.Mag))
	switch {
	case !ok:
		return 0, false
	case a.Neg && size <= 1<<63:
		return int64(-size), true
	case !a.Neg && size <= math.MaxInt64:
		return int64(size), true
	}
	return 0, false
}

// Cmp returns -1 if a < b, 0 if a = b, and 1 if a > b.
func Cmp(a, b api.Int) int {
	a, b = tidy(a), tidy(b)
	switch {
	case a.Neg && b.Neg:
		return order(b.Mag, a.Mag)
	case a.Neg:
		return -1
	case b.Neg:
		return 1
	}
	return order(a.Mag, b.Mag)
}

// Sign returns Cmp(a, 0).
func Sign(a api.Int) int {
	a = tidy(a)
	switch {
	case a.Neg:
		return -1
	case len(a.Mag) > 0:
		return 1
	}
	return 0
}

// Abs returns |a|.
func Abs(a api.Int) api.Int {
	return build(false, slices.Clone(a.Mag))
}

// Neg returns -a.
func Neg(a api.Int) api.Int {
	return build(!a.Neg, slices.Clone(a.Mag))
}

// Add returns a + b.
func Add(a, b api.Int) api.Int {
	return addSigned(tidy(a), tidy(b))
}

// Sub returns a - b.
func Sub(a, b api.Int) api.Int {
	a, b = tidy(a), tidy(b)
	b.Neg = !b.Neg
	return addSigned(a, b)
}

// addSigned returns a + b for trimmed limbs; the sign of a zero is ignored.
func addSigned(a, b api.Int) api.Int {
	if a.Neg == b.Neg {
		return build(a.Neg, sum(a.Mag, b.Mag))
	}
	if order(a.Mag, b.Mag) < 0 {
		a, b = b, a
	}
	return build(a.Neg, difference(a.Mag, b.Mag))
}

// Mul returns a b.
func Mul(a, b api.Int) api.Int {
	return build(a.Neg != b.Neg, product(trim(a.Mag), trim(b.Mag)))
}

// Pow returns the n-th power of a, and ErrArg if n is not in the range 0 to api.MaxPow.
func Pow(a api.Int, n int) (api.Int, api.Errno) {
	if n < 0 || n > api.MaxPow {
		return api.Int{}, api.ErrArg
	}
	power := Of(1)
	// From the highest binary digit of n on, so that no number is formed that is greater than the power.
	for bit := bits.Len(uint(n)) - 1; bit >= 0; bit-- {
		power = Mul(power, power)
		if n>>bit&1 == 1 {
			power = Mul(power, a)
		}
	}
	return power, api.OK
}

// build returns the valid integer with this sign and these limbs, which it keeps; the sign of zero does not matter.
func build(neg bool, limbs []uint32) api.Int {
	return tidy(api.Int{Neg: neg, Mag: limbs})
}

// tidy returns a without superfluous limbs, and without the sign of zero.
func tidy(a api.Int) api.Int {
	limbs := trim(a.Mag)
	return api.Int{Neg: a.Neg && len(limbs) > 0, Mag: limbs}
}
