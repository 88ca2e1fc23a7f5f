package crt_test

import (
	"math/big"
	"slices"
	"testing"

	"torsion/api"
	"torsion/crt"
)

// P4.4 (rejection).

// expectRejection fails unless l is rejected, even for integers that have all of its residues.
func expectRejection(t *testing.T, l []api.Residue) {
	t.Helper()
	if a, err := crt.Combine(l); err != api.ErrPrimes || !same(a, api.Int{}) {
		t.Errorf("Combine(%v) = %+v, %v", l, a, err)
	}
	for _, r := range l {
		for _, n := range []*big.Int{new(big.Int), big.NewInt(1), big.NewInt(-1), natural(r.V), sum(natural(r.V), natural(r.P)), difference(natural(r.V), natural(r.P))} {
			if crt.Consistent(l, whole(n)) {
				t.Errorf("Consistent(%v, %v) is true", l, n)
			}
		}
	}
}

// withWrong calls f for valid lists in which the residue wrong has been inserted: alone, first, last and in between.
func withWrong(wrong api.Residue, f func(l []api.Residue)) {
	f([]api.Residue{wrong})
	good := residues(big.NewInt(-12345), []uint64{2, 13, 2147483629, 65537})
	for i := range len(good) + 1 {
		f(slices.Insert(slices.Clone(good), i, wrong))
	}
}

func TestNumbersThatAreNotPrimeAreRejected(t *testing.T) {
	for _, p := range []uint64{0, 1, 4, 6, 9, 15, 91, 561, 2047, 46337 * 46337, 2147483629 + 2, 1<<31 - 2, 1 << 31, 2147483659, 1<<32 - 5, 1<<32 + 15, 1<<61 - 1, 1 << 63, 1<<64 - 59, 1<<64 - 1} {
		for _, v := range []uint64{0, 1, 2, p - 1} {
			withWrong(api.Residue{P: p, V: v}, func(l []api.Residue) { expectRejection(t, l) })
		}
	}
}

func TestRepeatedPrimesAreRejected(t *testing.T) {
	for _, p := range []uint64{2, 3, 7, 65539, mersenne} {
		for _, v := range []uint64{0, 1, p - 1} {
			for _, other := range []uint64{0, 1, p - 1} {
				expectRejection(t, list(p, v, p, other))
				expectRejection(t, list(p, v, 5, 2, p, other))
				expectRejection(t, list(5, 2, p, v, 11, 3, p, other, 1000003, 4))
			}
		}
	}
	for _, primes := range primeLists() {
		l := residues(big.NewInt(77), primes)
		for _, r := range l[:min(3, len(l))] {
			expectRejection(t, append(slices.Clone(l), r))
		}
	}
}

func TestResiduesThatAreTooLargeAreRejected(t *testing.T) {
	for _, p := range []uint64{3, 7, 65539, mersenne} {
		for _, v := range []uint64{p, p + 1, 2 * p, 1 << 32, p << 32, 1<<32*p + 1, 1 << 63, 1<<64 - 1} {
			withWrong(api.Residue{P: p, V: v}, func(l []api.Residue) { expectRejection(t, l) })
		}
		withWrong(api.Residue{P: p, V: p - 1}, func(l []api.Residue) {
			if _, err := crt.Combine(l); err != api.OK {
				t.Errorf("Combine(%v): %v", l, err)
			}
		})
	}
	expectRejection(t, list(2, 2))
}
