package modular_test

import (
	"math/big"
	"slices"
	"testing"

	"torsion/api"
	"torsion/integer"
	"torsion/modular"
)

// P1 and P2 of DOC.md: no function panics or runs forever, arguments are not modified, and results depend on nothing else.

// outcome has what all functions return for the same arguments.
type outcome struct {
	prime bool
	words [8]uint64
	err   api.Errno
	n     api.Int
}

func results(p, a, b uint64, n api.Int) outcome {
	inverse, err := modular.Inv(p, a)
	return outcome{
		prime: modular.Prime(p),
		words: [8]uint64{modular.Next(p), modular.Before(p), modular.Add(p, a, b), modular.Sub(p, a, b), modular.Mul(p, a, b), modular.Pow(p, a, b), inverse, modular.Reduce(p, n)},
		err:   err,
		n:     modular.Symmetric(p, a),
	}
}

// equal reports whether both outcomes are the same.
func equal(x, y outcome) bool {
	return x.prime == y.prime && x.words == y.words && x.err == y.err && same(x.n, y.n)
}

func TestResultsDependOnArgumentsOnly(t *testing.T) {
	n := whole(new(big.Int).Lsh(big.NewInt(-5), 70))
	pairs(func(p, a, b uint64) {
		if !equal(results(p, a, b, n), results(p, a, b, n)) {
			t.Errorf("%d, %d, %d: other results at the second call", p, a, b)
		}
	})
}

func TestReduceDoesNotModifyItsArgument(t *testing.T) {
	s := source(10)
	for _, p := range primes() {
		for _, x := range integers(p, s) {
			n := whole(x)
			limbs := append(slices.Clone(n.Mag), 77, 78) // nothing may be looked at or written to behind the last limb
			before := slices.Clone(limbs)
			if r := modular.Reduce(p, api.Int{Neg: n.Neg, Mag: limbs[:len(n.Mag)]}); r != residue(x, p) {
				t.Errorf("Reduce(%d, %v) = %d", p, x, r)
			}
			if !slices.Equal(limbs, before) {
				t.Errorf("Reduce(%d, %v) modifies its argument", p, x)
			}
		}
	}
}

func TestResultsAreValidAndNewMemory(t *testing.T) {
	pairs(func(p, a, _ uint64) {
		n := modular.Symmetric(p, a)
		if !integer.Valid(n) {
			t.Errorf("Symmetric(%d, %d) = %+v", p, a, n)
		}
		for i := range n.Mag {
			n.Mag[i]++
		}
		if !same(modular.Symmetric(p, a), whole(symmetric(p, a))) {
			t.Errorf("Symmetric(%d, %d) shares memory with an earlier result", p, a)
		}
	})
}

// For moduli that are not primes, residues that are too great and invalid integers the document specifies nothing, but the functions return.
func TestInvalidArgumentsDoNoHarm(t *testing.T) {
	words := []uint64{0, 1, 2, 4, 6, 9, 561, 1<<31 - 2, mersenne, 1 << 31, 1<<31 + 1, 1<<32 - 1, 1 << 32, 1<<32 + 1, 1<<62 + 1, 1<<63 - 1, 1 << 63, 1<<63 + 1, 1<<64 - 2, 1<<64 - 1}
	var list []api.Int
	for _, limbs := range [][]uint32{nil, {}, {0}, {1}, {0, 0}, {5, 0}, {0, 5, 0}, {1, 2, 3}, {1<<32 - 1, 1<<32 - 1, 1<<32 - 1}} {
		list = append(list, api.Int{Mag: limbs}, api.Int{Neg: true, Mag: limbs})
	}
	for i, p := range words {
		for _, a := range words {
			for _, b := range words {
				n := list[i%len(list)]
				first := results(p, a, b, n)
				if !equal(first, results(p, a, b, n)) {
					t.Errorf("%d, %d, %d, %+v: other results at the second call", p, a, b, n)
				}
				if first.err != api.OK && (first.err != api.ErrInverse || first.words[6] != 0) {
					t.Errorf("Inv(%d, %d) = %d, %v", p, a, first.words[6], first.err)
				}
			}
		}
		for _, n := range list {
			modular.Reduce(p, n)
		}
	}
}

// A zero with a sign or with limbs is not valid, but it is not reduced to p, which is no residue.
func TestRemaindersAreBelowThePrime(t *testing.T) {
	for _, p := range primes() {
		for _, limbs := range [][]uint32{nil, {0}, {uint32(p)}, {uint32(p), 0}, {0, uint32(p)}, {0, 0, 0}} {
			for _, neg := range []bool{false, true} {
				if r := modular.Reduce(p, api.Int{Neg: neg, Mag: limbs}); r != 0 {
					t.Errorf("Reduce(%d, %v %v) = %d", p, neg, limbs, r)
				}
			}
		}
	}
}
