package modular_test

import (
	"math/big"
	"math/rand/v2"
	"slices"

	"torsion/api"
)

// The tests compare with math/big, through conversions that do not use package integer, and with a sieve.

const mersenne = 1<<31 - 1 // the greatest prime that is allowed

// whole returns the valid integer n.
func whole(n *big.Int) api.Int {
	rest, low := new(big.Int).Abs(n), new(big.Int)
	var limbs []uint32
	for rest.Sign() > 0 {
		limbs = append(limbs, uint32(low.And(rest, big.NewInt(1<<32-1)).Uint64()))
		rest.Rsh(rest, 32)
	}
	return api.Int{Neg: n.Sign() < 0, Mag: limbs}
}

// natural returns n for math/big.
func natural(n uint64) *big.Int { return new(big.Int).SetUint64(n) }

// residue returns the remainder of n by p, from 0 to p - 1.
func residue(n *big.Int, p uint64) uint64 {
	return new(big.Int).Mod(n, natural(p)).Uint64()
}

// same reports whether a and b are the same limbs and signs.
func same(a, b api.Int) bool { return a.Neg == b.Neg && slices.Equal(a.Mag, b.Mag) }

// source returns numbers without a pattern, the same ones in every run.
func source(seed uint64) *rand.Rand { return rand.New(rand.NewPCG(seed, 3)) }

// primes returns the first primes, primes next to powers of 2 at which products and limbs end, and others of all sizes.
func primes() []uint64 {
	list := []uint64{2, 3, 5, 7, 11, 13, 101, 251, 257, 46337, 65521, 65537, 1000003, 16777213, 1073741789, 1073741827, 2147483629, mersenne}
	s := source(1)
	for len(list) < 60 {
		if n := s.Uint64N(1 << (2 + len(list)%30)); natural(n).ProbablyPrime(20) {
			list = append(list, n)
		}
	}
	return list
}

// elements returns residues modulo p: all of them if they are few, and otherwise those at both ends and in the middle, and others.
func elements(p uint64, s *rand.Rand) []uint64 {
	var list []uint64
	if p < 12 {
		for a := range p {
			list = append(list, a)
		}
		return list
	}
	list = []uint64{0, 1, 2, p/2 - 1, p / 2, p/2 + 1, p - 2, p - 1}
	for range 6 {
		list = append(list, s.Uint64N(p))
	}
	return list
}

// pairs calls f for all primes of the tests, and for pairs of elements modulo each of them.
func pairs(f func(p, a, b uint64)) {
	s := source(2)
	for _, p := range primes() {
		list := elements(p, s)
		for _, a := range list {
			for _, b := range list {
				f(p, a, b)
			}
		}
	}
}

// integers returns 0, numbers next to multiples of p and to the powers of 2 at which a limb or a word ends, and others of up to 40 limbs, all of them with both signs.
func integers(p uint64, s *rand.Rand) []*big.Int {
	var list []*big.Int
	around := func(n *big.Int) {
		for d := int64(-1); d <= 1; d++ {
			x := new(big.Int).Add(n, big.NewInt(d))
			list = append(list, x, new(big.Int).Neg(x))
		}
	}
	around(new(big.Int))
	for _, bits := range []uint{16, 31, 32, 63, 64, 95, 96, 1000} {
		power := new(big.Int).Lsh(big.NewInt(1), bits)
		around(power)
		around(new(big.Int).Mul(power, natural(p)))
	}
	for _, k := range []uint64{1, 2, 3, p, 1<<64 - 1} {
		around(new(big.Int).Mul(natural(k), natural(p)))
	}
	for i := range 20 {
		n := new(big.Int)
		for range 1 + i*2 {
			n.Add(n.Lsh(n, 32), big.NewInt(int64(s.Uint32())))
		}
		list = append(list, n, new(big.Int).Neg(n))
	}
	return list
}
