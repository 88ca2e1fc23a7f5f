package crt_test

import (
	"math/big"
	"slices"
	"testing"

	"torsion/api"
	"torsion/crt"
)

// P4.2 (remainders) and P4.3 (recovery).

func TestIntegersAreRecovered(t *testing.T) {
	samples(func(n *big.Int, primes []uint64) {
		l := residues(n, primes)
		a, err := crt.Combine(l)
		expect(t, l, a, err, n)
	})
}

// For residues without a pattern the result is compared with what P4.2 says of it.
func TestResultsHaveTheResiduesAndAreInTheRange(t *testing.T) {
	s := source(4)
	for _, primes := range primeLists() {
		for range 5 {
			l := make([]api.Residue, len(primes))
			for i, p := range primes {
				l[i] = api.Residue{P: p, V: s.Uint64N(p)}
			}
			a, err := crt.Combine(l)
			n := new(big.Int)
			for _, limb := range slices.Backward(a.Mag) {
				n.Add(n.Lsh(n, 32), big.NewInt(int64(limb)))
			}
			if a.Neg {
				n.Neg(n)
			}
			m, twice := modulus(l), new(big.Int).Lsh(n, 1)
			if err != api.OK || !slices.Equal(residues(n, primes), l) {
				t.Errorf("Combine(%v) = %v, %v, which has other residues", l, n, err)
			}
			if twice.Cmp(m) > 0 || twice.Cmp(new(big.Int).Neg(m)) <= 0 {
				t.Errorf("Combine(%v) = %v, which is not in the range", l, n)
			}
		}
	}
}

func TestOrderDoesNotMatter(t *testing.T) {
	s := source(5)
	samples(func(n *big.Int, primes []uint64) {
		l := residues(n, primes)
		for range 3 {
			s.Shuffle(len(l), func(i, j int) { l[i], l[j] = l[j], l[i] })
			a, err := crt.Combine(l)
			expect(t, l, a, err, n)
			if !crt.Consistent(l, whole(n)) {
				t.Errorf("Consistent(%v, %v) is false", l, n)
			}
		}
	})
}

// All integers with these residues are consistent with them and give the same result.
func TestIntegersDifferByMultiplesOfTheProduct(t *testing.T) {
	s := source(6)
	samples(func(n *big.Int, primes []uint64) {
		l := residues(n, primes)
		m := modulus(l)
		for _, k := range []int64{-1000000007, -3, -1, 1, 2, 5, 1 << 40} {
			other := sum(n, product(m, big.NewInt(k)))
			if !crt.Consistent(l, whole(other)) {
				t.Errorf("Consistent(%v, %v) is false", l, other)
			}
			a, err := crt.Combine(residues(other, primes))
			expect(t, l, a, err, n)
		}
		for _, d := range []*big.Int{big.NewInt(1), big.NewInt(-1), below(s, m), product(m, below(s, m))} {
			other := sum(n, d)
			want := new(big.Int).Mod(d, m).Sign() == 0
			if crt.Consistent(l, whole(other)) != want {
				t.Errorf("Consistent(%v, %v) is not %v", l, other, want)
			}
		}
	})
}

// An integer that differs in one residue alone, the first, the last or another one, is told from those that have them all.
func TestEachResidueCounts(t *testing.T) {
	samples(func(n *big.Int, primes []uint64) {
		l := residues(n, primes)
		m := modulus(l)
		for i, p := range primes {
			if i > 5 && i < len(primes)-3 {
				continue
			}
			others := new(big.Int).Div(m, natural(p)) // changes the residue modulo p and no other one
			if crt.Consistent(l, whole(sum(n, others))) {
				t.Errorf("Consistent(%v, %v + %v) is true", l, n, others)
			}
			changed := slices.Clone(l)
			changed[i].V = (changed[i].V + 1) % p
			if a, err := crt.Combine(changed); err != api.OK || same(a, whole(n)) || crt.Consistent(changed, whole(n)) {
				t.Errorf("Combine(%v) = %+v, %v", changed, a, err)
			}
		}
	})
}
