package modular_test

import (
	"testing"

	"torsion/modular"
)

// P3.1 for C1, and P3.2.

// sieve reports for the numbers from low up to below high which of them are primes below 2^31; it strikes out multiples, which package modular does not do.
func sieve(low, high uint64) []bool {
	flags := make([]bool, high-low)
	for i := range flags {
		n := low + uint64(i)
		flags[i] = n >= 2 && n < 1<<31
	}
	for d := uint64(2); d*d < min(high, 1<<31); d++ {
		for n := max(d*d, (low+d-1)/d*d); n < high; n += d {
			flags[n-low] = false
		}
	}
	return flags
}

// windows are ranges of numbers: both ends of the primes that are allowed, and a few between them.
func windows() [][2]uint64 {
	return [][2]uint64{{0, 1 << 17}, {1<<30 - 5000, 1<<30 + 5000}, {25326001 - 3000, 25326001 + 3000}, {746331041 - 3000, 746331041 + 3000}, {1<<31 - 1<<16, 1<<31 + 1<<12}}
}

func TestPrime(t *testing.T) {
	for _, window := range windows() {
		for i, want := range sieve(window[0], window[1]) {
			if n := window[0] + uint64(i); modular.Prime(n) != want {
				t.Errorf("Prime(%d) is not %v", n, want)
			}
		}
	}
}

func TestNext(t *testing.T) {
	for _, window := range windows() {
		flags := sieve(window[0], window[1])
		want, known := uint64(0), window[1] > 1<<31
		for i := len(flags) - 1; i >= 0; i-- {
			n := window[0] + uint64(i)
			if p := modular.Next(n); known && p != want {
				t.Errorf("Next(%d) = %d, not %d", n, p, want)
			}
			if flags[i] {
				want, known = n, true
			}
		}
	}
}

func TestBefore(t *testing.T) {
	for _, window := range windows() {
		want, known := uint64(0), window[0] == 0
		for i, prime := range sieve(window[0], window[1]) {
			n := window[0] + uint64(i)
			if p := modular.Before(n); known && p != want {
				t.Errorf("Before(%d) = %d, not %d", n, p, want)
			}
			if prime {
				want, known = n, true
			}
		}
	}
}

func TestEndsOfThePrimes(t *testing.T) {
	for _, x := range []struct{ n, before, next uint64 }{
		{0, 0, 2}, {1, 0, 2}, {2, 0, 3}, {3, 2, 5}, {4, 3, 5}, {5, 3, 7},
		{2147483628, 2147483587, 2147483629}, {2147483629, 2147483587, mersenne}, {mersenne - 1, 2147483629, mersenne}, {mersenne, 2147483629, 0},
		{1 << 31, mersenne, 0}, {1<<31 + 1, mersenne, 0}, {2147483659, mersenne, 0}, {1 << 32, mersenne, 0}, {4294967311, mersenne, 0}, {1 << 63, mersenne, 0}, {1<<64 - 59, mersenne, 0}, {1<<64 - 2, mersenne, 0}, {1<<64 - 1, mersenne, 0},
	} {
		if before, next := modular.Before(x.n), modular.Next(x.n); before != x.before || next != x.next {
			t.Errorf("Before(%d) = %d, Next(%d) = %d", x.n, before, x.n, next)
		}
	}
}

// Prime numbers of at least 2^31 are none in the sense of the document.
func TestGreatPrimeNumbersAreNoPrimes(t *testing.T) {
	for _, n := range []uint64{2147483659, 4294967291, 4294967311, 1<<61 - 1, 1<<63 - 25, 1<<64 - 59} {
		if !natural(n).ProbablyPrime(20) {
			t.Errorf("the test is wrong: %d is composite", n)
		}
		if modular.Prime(n) {
			t.Errorf("Prime(%d)", n)
		}
	}
}

// Numbers that a weaker test takes for primes. Those of the first four rows are strong pseudoprimes to all of the bases 2, 3, 5 and 7 but 2, 3, 5 and 7, in this order.
func TestPseudoprimes(t *testing.T) {
	for _, n := range []uint64{
		1024651, 32817151, 116151661, 134176771, 178482151, 255866131, 2086236181,
		746331041,
		2284453, 143168581, 682528687, 1168256953, 1638294661, 1856689453,
		25326001, 161304001, 960946321, 1157839381,
		2047, 3277, 4033, 4681, 8321, 15841, 29341, 42799, 49141, 52633, 121, 703, 1891, 781, 1541, 25, 325, 2101, // strong pseudoprimes to one base
		1373653, 1530787, 1987021, 3116107, 5173601, 6787327, 11541307, // to the bases 2 and 3
		341, 561, 645, 1105, 1729, 2465, 2821, 6601, 8911, 10585, 41041, 825265, 321197185, // pseudoprimes and numbers of Carmichael
		121, 169, 1849, 46337 * 46337, 32749 * 65537, 46327 * 46337, // products of primes
	} {
		if natural(n).ProbablyPrime(20) {
			t.Errorf("the test is wrong: %d is not composite", n)
		}
		if modular.Prime(n) {
			t.Errorf("Prime(%d)", n)
		}
	}
}

// hasDivisor reports whether n has a divisor from 2 to its square root.
func hasDivisor(n uint64) bool {
	for d := uint64(2); d*d <= n; d++ {
		if n%d == 0 {
			return true
		}
	}
	return false
}

func TestNoDivisorsAndNoPrimesBetween(t *testing.T) {
	s := source(3)
	for i := range 400 {
		n := s.Uint64N(1<<(2+i%30) - 1)
		p := modular.Next(n)
		if p <= n || p >= 1<<31 || !modular.Prime(p) || hasDivisor(p) {
			t.Errorf("Next(%d) = %d", n, p)
			continue
		}
		for c := n + 1; c < p; c++ {
			if c >= 2 && !hasDivisor(c) {
				t.Errorf("Next(%d) = %d, but %d is a prime", n, p, c)
			}
		}
		if modular.Prime(n) && modular.Before(p) != n || !modular.Prime(n) && modular.Next(modular.Before(p)) != p {
			t.Errorf("Before(%d) = %d", p, modular.Before(p))
		}
	}
}
