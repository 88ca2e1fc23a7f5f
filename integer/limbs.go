package integer

import "cmp"

// The functions of this file compute with absolute values as lists of limbs, the lowest limb first. They require lists without zero limbs at the end, but may return lists with them, always in new memory.

// trim returns the limbs up to the highest one that is not zero.
func trim(a []uint32) []uint32 {
	n := len(a)
highest:
	for n > 0 {
		switch a[n-1] {
		case 0:
			n--
		default:
			break highest
		}
	}
	return a[:n:n]
}

// ofWord returns the limbs of w.
func ofWord(w uint64) []uint32 {
	switch {
	case w == 0:
		return nil
	case w>>32 == 0:
		return []uint32{uint32(w)}
	}
	return []uint32{uint32(w), uint32(w >> 32)}
}

// word returns the value of a, and whether it is less than 2^64.
func word(a []uint32) (uint64, bool) {
	switch len(a) {
	case 0:
		return 0, true
	case 1:
		return uint64(a[0]), true
	case 2:
		return uint64(a[1])<<32 | uint64(a[0]), true
	}
	return 0, false
}

// words returns the values of a and b, and whether both are less than 2^64.
func words(a, b []uint32) (uint64, uint64, bool) {
	x, small := word(a)
	y, alsoSmall := word(b)
	return x, y, small && alsoSmall
}

// order returns -1 if a < b, 0 if a = b, and 1 if a > b.
func order(a, b []uint32) int {
	if len(a) != len(b) {
		return cmp.Compare(len(a), len(b))
	}
	for i := len(a) - 1; i >= 0; i-- {
		if a[i] != b[i] {
			return cmp.Compare(a[i], b[i])
		}
	}
	return 0
}

// sum returns a + b.
func sum(a, b []uint32) []uint32 {
	if len(a) < len(b) {
		a, b = b, a
	}
	out := make([]uint32, len(a)+1)
	carry := uint64(0)
	for i := range len(a) {
		t := uint64(a[i]) + carry
		if i < len(b) {
			t += uint64(b[i])
		}
		out[i], carry = uint32(t), t>>32
	}
	out[len(a)] = uint32(carry)
	return out
}

// difference returns a - b for a >= b.
func difference(a, b []uint32) []uint32 {
	out := make([]uint32, len(a))
	borrow := uint64(0)
	for i := range len(a) {
		t := uint64(a[i]) - borrow
		if i < len(b) {
			t -= uint64(b[i])
		}
		out[i], borrow = uint32(t), t>>63
	}
	return out
}

// product returns a b.
func product(a, b []uint32) []uint32 {
	if len(a) == 0 || len(b) == 0 {
		return nil
	}
	out := make([]uint32, len(a)+len(b))
	for i := range len(a) {
		x, carry := uint64(a[i]), uint64(0)
		for k := range len(b) {
			t := x*uint64(b[k]) + uint64(out[i+k]) + carry // at most 2^64 - 1
			out[i+k], carry = uint32(t), t>>32
		}
		out[i+len(b)] = uint32(carry)
	}
	return out
}

// shiftUp returns a times 2^n for n < 32, with one more limb than a has.
func shiftUp(a []uint32, n int) []uint32 {
	out := make([]uint32, len(a)+1)
	for i := range len(a) {
		t := uint64(a[i]) << n
		out[i] |= uint32(t)
		out[i+1] = uint32(t >> 32)
	}
	return out
}

// shiftDown returns the quotient of a by 2^n for n < 32.
func shiftDown(a []uint32, n int) []uint32 {
	out := make([]uint32, len(a))
	high := uint64(0)
	for i := len(a) - 1; i >= 0; i-- {
		high = high<<32 | uint64(a[i])
		out[i] = uint32(high >> n)
	}
	return out
}
