package crt_test

import (
	"math/big"
	"math/rand/v2"
	"slices"
	"testing"

	"torsion/api"
)

// The tests compare with math/big, through conversions that do not use package integer.

const mersenne = 1<<31 - 1 // the greatest prime that is allowed

// whole returns the valid integer n.
func whole(n *big.Int) api.Int {
	rest, low := new(big.Int).Abs(n), new(big.Int)
	var limbs []uint32
	for rest.Sign() > 0 {
		limbs = append(limbs, uint32(low.And(rest, big.NewInt(1<<32-1)).Uint64()))
		rest.Rsh(rest, 32)
	}
	return api.Int{Neg: n.Sign() < 0, Mag: limbs}
}

// natural returns n for math/big.
func natural(n uint64) *big.Int { return new(big.Int).SetUint64(n) }

// residue returns the remainder of n by p, from 0 to p - 1.
func residue(n *big.Int, p uint64) uint64 {
	return new(big.Int).Mod(n, natural(p)).Uint64()
}

// sum, difference and product return the results of the operations as new numbers.
func sum(a, b *big.Int) *big.Int        { return new(big.Int).Add(a, b) }
func difference(a, b *big.Int) *big.Int { return new(big.Int).Sub(a, b) }
func product(a, b *big.Int) *big.Int    { return new(big.Int).Mul(a, b) }

// same reports whether a and b are the same limbs and signs.
func same(a, b api.Int) bool { return a.Neg == b.Neg && slices.Equal(a.Mag, b.Mag) }

// sameRat reports whether a and b are the same numerators and denominators.
func sameRat(a, b api.Rat) bool { return same(a.Num, b.Num) && same(a.Den, b.Den) }

// rat returns the valid rational number x, which math/big keeps in lowest terms.
func rat(x *big.Rat) api.Rat { return api.Rat{Num: whole(x.Num()), Den: whole(x.Denom())} }

// source returns numbers without a pattern, the same ones in every run.
func source(seed uint64) *rand.Rand { return rand.New(rand.NewPCG(seed, 4)) }

// below returns a number from 0 to n - 1.
func below(s *rand.Rand, n *big.Int) *big.Int {
	x := new(big.Int)
	for range n.BitLen()/32 + 2 {
		x.Add(x.Lsh(x, 32), big.NewInt(int64(s.Uint32())))
	}
	return x.Mod(x, n)
}

// list returns residues from pairs of a number and a residue.
func list(numbers ...uint64) []api.Residue {
	var l []api.Residue
	for i := 0; i+1 < len(numbers); i += 2 {
		l = append(l, api.Residue{P: numbers[i], V: numbers[i+1]})
	}
	return l
}

// residues returns the residues of a modulo these primes.
func residues(a *big.Int, primes []uint64) []api.Residue {
	l := make([]api.Residue, len(primes))
	for i, p := range primes {
		l[i] = api.Residue{P: p, V: residue(a, p)}
	}
	return l
}

// modulus returns the product of all P.
func modulus(l []api.Residue) *big.Int {
	m := big.NewInt(1)
	for _, r := range l {
		m.Mul(m, natural(r.P))
	}
	return m
}

// primeLists returns lists of different primes: none, single ones, small ones, great ones, mixed ones, and long ones; some begin with 2, some end with it, and some are without it.
func primeLists() [][]uint64 {
	lists := [][]uint64{nil, {2}, {3}, {7}, {65537}, {mersenne}, {2, 3}, {3, 2}, {3, 5}, {5, 3, 2}, {2, 3, 5, 7, 11, 13, 17, 19, 23}, {2147483629, mersenne}, {mersenne, 2147483629}, {2, mersenne}, {mersenne, 3}}
	s := source(1)
	for size := 1; size <= 24; size++ {
		for _, bits := range []int{7, 20, 31} {
			lists = append(lists, differentPrimes(s, size, bits))
		}
	}
	return append(lists, differentPrimes(s, 100, 31), differentPrimes(s, 300, 31))
}

// differentPrimes returns that many different primes of up to this many binary digits.
func differentPrimes(s *rand.Rand, size, bits int) []uint64 {
	var primes []uint64
	for len(primes) < size {
		if p := s.Uint64N(1 << bits); natural(p).ProbablyPrime(10) && !slices.Contains(primes, p) {
			primes = append(primes, p)
		}
	}
	return primes
}

// inRange returns integers a with -m < 2 a <= m: those at both ends and around 0, and others.
func inRange(s *rand.Rand, m *big.Int) []*big.Int {
	top := new(big.Int).Rsh(m, 1)
	bottom := sum(difference(top, m), big.NewInt(1))
	list := []*big.Int{new(big.Int), top, bottom}
	for d := int64(1); d <= 2; d++ {
		list = append(list, big.NewInt(d), big.NewInt(-d), difference(top, big.NewInt(d)), sum(bottom, big.NewInt(d)))
	}
	for range 4 {
		list = append(list, sum(bottom, below(s, m)))
	}
	return slices.DeleteFunc(list, func(a *big.Int) bool { return a.Cmp(top) > 0 || a.Cmp(bottom) < 0 })
}

// samples calls f for integers of the range that Combine has for these primes.
func samples(f func(a *big.Int, primes []uint64)) {
	s := source(2)
	for _, primes := range primeLists() {
		for _, a := range inRange(s, modulus(residues(new(big.Int), primes))) {
			f(a, primes)
		}
	}
}

// expect fails unless the result of Combine is want.
func expect(t *testing.T, what any, a api.Int, err api.Errno, want *big.Int) {
	t.Helper()
	if err != api.OK || !same(a, whole(want)) {
		t.Errorf("Combine(%v) = %+v, %v, not %v", what, a, err, want)
	}
}
