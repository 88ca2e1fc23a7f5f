package modular

import (
	"iter"
	"math/bits"

	"torsion/api"
)

// bases are the first primes: as many as it takes, because the least composite number that is a strong pseudoprime to all of them, 3215031751, is not below api.MaxPrime.
var bases = [...]uint64{2, 3, 5, 7}

// Prime reports whether n is a prime below api.MaxPrime.
func Prime(n uint64) bool {
	if n < 2 || n >= api.MaxPrime {
		return false
	}
	for _, base := range bases {
		if n%base == 0 {
			return n == base
		}
	}
	return passes(n)
}

// passes reports whether n is a prime or a strong pseudoprime to all bases, none of which divides it; n is odd and greater than 1.
func passes(n uint64) bool {
	twos := bits.TrailingZeros64(n - 1)
nextBase:
	for _, base := range bases {
		power := Pow(n, base, (n-1)>>twos)
		if power == 1 {
			continue
		}
		// Modulo a prime, the square roots of 1 are 1 and -1 alone, so that -1 is met on the way to the power with the exponent n - 1.
		for range twos {
			if power == n-1 {
				continue nextBase
			}
			power = Mul(n, power, power)
		}
		return false
	}
	return true
}

// Next returns the least prime that is greater than n, and 0 if there is none.
func Next(n uint64) uint64 {
	return firstPrime(above(n))
}

// Before returns the greatest prime that is less than n, and 0 if there is none.
func Before(n uint64) uint64 {
	return firstPrime(below(n))
}

// firstPrime returns the first candidate that is a prime, and 0 if none of them is.
func firstPrime(candidates iter.Seq[uint64]) uint64 {
	for n := range candidates {
		if Prime(n) {
			return n
		}
	}
	return 0
}

// above yields the numbers that are greater than n and below api.MaxPrime, the least one first.
func above(n uint64) iter.Seq[uint64] {
	return func(yield func(uint64) bool) {
		for candidate := min(n, api.MaxPrime) + 1; candidate < api.MaxPrime; candidate++ {
			if !yield(candidate) {
				return
			}
		}
	}
}

// below yields the numbers from 1 on that are less than n and below api.MaxPrime, the greatest one first.
func below(n uint64) iter.Seq[uint64] {
	return func(yield func(uint64) bool) {
		for limit := min(n, api.MaxPrime); limit > 1; limit-- {
			if !yield(limit - 1) {
				return
			}
		}
	}
}
