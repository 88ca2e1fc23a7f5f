package crt_test

import (
	"math/big"
	"slices"
	"testing"

	"torsion/api"
	"torsion/crt"
	"torsion/integer"
)

// P1 and P2 of DOC.md: no function panics or runs forever, arguments are not modified, and results depend on nothing else.

// outcome has what all functions return for the same arguments.
type outcome struct {
	product, combined  api.Int
	combineErr         api.Errno
	consistent, itself bool
	fraction           api.Rat
	fractionErr        api.Errno
}

func results(l []api.Residue, a, m api.Int) outcome {
	var o outcome
	o.product = crt.Product(l)
	o.combined, o.combineErr = crt.Combine(l)
	o.consistent = crt.Consistent(l, a)
	o.itself = crt.Consistent(l, o.combined)
	o.fraction, o.fractionErr = crt.Rational(a, m)
	return o
}

// equal reports whether both outcomes are the same.
func equal(x, y outcome) bool {
	return same(x.product, y.product) && same(x.combined, y.combined) && x.combineErr == y.combineErr &&
		x.consistent == y.consistent && x.itself == y.itself && sameRat(x.fraction, y.fraction) && x.fractionErr == y.fractionErr
}

// integers returns those of a result.
func (o outcome) integers() []api.Int {
	return []api.Int{o.product, o.combined, o.fraction.Num, o.fraction.Den}
}

// roomy returns n with capacity behind its last limb, and all of its memory.
func roomy(n *big.Int) (api.Int, []uint32) {
	a := whole(n)
	limbs := append(slices.Clone(a.Mag), 77, 78)
	return api.Int{Neg: a.Neg, Mag: limbs[:len(a.Mag)]}, limbs
}

func TestArgumentsAreNotModified(t *testing.T) {
	s := source(11)
	samples(func(n *big.Int, primes []uint64) {
		l := append(residues(n, primes), api.Residue{P: 77, V: 78})
		m, mLimbs := roomy(sum(modulus(l), big.NewInt(2)))
		a, aLimbs := roomy(difference(n, below(s, modulus(l))))
		lBefore, mBefore, aBefore := slices.Clone(l), slices.Clone(mLimbs), slices.Clone(aLimbs)
		first := results(l[:len(primes)], a, m)
		if !slices.Equal(l, lBefore) || !slices.Equal(mLimbs, mBefore) || !slices.Equal(aLimbs, aBefore) {
			t.Errorf("%v, %+v, %+v: arguments are modified", l, a, m)
		}
		if !equal(first, results(l[:len(primes)], a, m)) {
			t.Errorf("%v, %+v, %+v: other results at the second call", l, a, m)
		}
	})
}

func TestResultsAreValidAndNewMemory(t *testing.T) {
	samples(func(n *big.Int, primes []uint64) {
		l, a, m := residues(n, primes), whole(n), whole(sum(modulus(residues(n, primes)), big.NewInt(1)))
		first, want := results(l, a, m), results(l, a, m)
		for _, x := range first.integers() {
			if !integer.Valid(x) {
				t.Errorf("%v, %v: %+v is not valid", l, n, x)
			}
			for i := range x.Mag {
				x.Mag[i]++
			}
		}
		if !same(a, whole(n)) || !equal(want, results(l, a, m)) {
			t.Errorf("%v, %v: results share memory with arguments or with other results", l, n)
		}
	})
}

// The numerator and the denominator share no memory with each other, nor with the arguments of which they are parts.
func TestPartsOfFractionsAreNewMemory(t *testing.T) {
	for _, n := range []int64{0, 1, -1, 3, -7, 1 << 40} {
		a, m := whole(big.NewInt(n)), whole(new(big.Int).Lsh(big.NewInt(1), 100))
		q, err := crt.Rational(a, m)
		if err != api.OK {
			t.Fatalf("Rational(%d): %v", n, err)
		}
		for i := range q.Num.Mag {
			q.Num.Mag[i] += 5
		}
		if !same(q.Den, whole(big.NewInt(1))) || !same(a, whole(big.NewInt(n))) {
			t.Errorf("Rational(%d): the numerator shares memory", n)
		}
	}
}

// For invalid integers the document specifies nothing, but the functions return, and errors come with zero values.
func TestInvalidArgumentsDoNoHarm(t *testing.T) {
	var odd []api.Int
	for _, limbs := range [][]uint32{nil, {}, {0}, {1}, {2}, {0, 0}, {5, 0}, {0, 5, 0}, {100, 0, 0}, {67, 0}, {1, 2, 3}, {7, 7, 7, 7, 7, 0, 0}, {1<<32 - 1, 1<<32 - 1, 1<<32 - 1}} {
		odd = append(odd, api.Int{Mag: limbs}, api.Int{Neg: true, Mag: limbs})
	}
	lists := [][]api.Residue{nil, list(0, 0), list(2, 1), list(3, 2, 5, 3), list(0, 1, 1<<64-1, 1<<64-1), list(mersenne, 5)}
	for _, a := range odd {
		for _, m := range odd {
			for _, l := range lists {
				o := results(l, a, m)
				if !equal(o, results(l, a, m)) {
					t.Errorf("%v, %+v, %+v: other results at the second call", l, a, m)
				}
				if o.fractionErr != api.OK && !sameRat(o.fraction, api.Rat{}) || o.combineErr != api.OK && !same(o.combined, api.Int{}) {
					t.Errorf("%v, %+v, %+v: %+v", l, a, m, o)
				}
			}
		}
	}
}
