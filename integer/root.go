package integer

import (
	"math/bits"

	"torsion/api"
)

// Root returns the greatest integer r with r^2 <= a, and ErrArg if a is negative.
func Root(a api.Int) (api.Int, api.Errno) {
	a = tidy(a)
	if a.Neg {
		return api.Int{}, api.ErrArg
	}
	if len(a.Mag) == 0 {
		return api.Int{}, api.OK
	}
	// Newton's iteration falls from any start above the root until it reaches its floor.
	root := powerOfTwo((Bits(a) + 1) / 2)
	for {
		quotient, _ := divide(a.Mag, root)
		next := trim(shiftDown(trim(sum(root, trim(quotient))), 1))
		if order(next, root) >= 0 {
			return build(false, root), api.OK
		}
		root = next
	}
}

// powerOfTwo returns the limbs of 2^n.
func powerOfTwo(n int) []uint32 {
	limbs := make([]uint32, n/32+1)
	limbs[n/32] = 1 << (n % 32)
	return limbs
}

// Bits returns the least n >= 0 with |a| < 2^n.
func Bits(a api.Int) int {
	limbs := trim(a.Mag)
	if len(limbs) == 0 {
		return 0
	}
	return 32*(len(limbs)-1) + bits.Len32(limbs[len(limbs)-1])
}
