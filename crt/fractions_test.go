package crt_test

import (
	"math/big"
	"math/rand/v2"
	"testing"

	"torsion/api"
	"torsion/crt"
)

// P4.5 (fractions).

// bound returns the floor of the square root of (m - 1)/2.
func bound(m *big.Int) *big.Int {
	half := new(big.Int).Rsh(difference(m, big.NewInt(1)), 1)
	return half.Sqrt(half)
}

// coprime reports whether a and b have no common divisor but 1.
func coprime(a, b *big.Int) bool {
	return new(big.Int).GCD(nil, nil, new(big.Int).Abs(a), new(big.Int).Abs(b)).Cmp(big.NewInt(1)) == 0
}

// expectFraction fails unless Rational(a, m) is want, or ErrBound if want is nil.
func expectFraction(t *testing.T, a, m *big.Int, want *big.Rat) {
	t.Helper()
	q, err := crt.Rational(whole(a), whole(m))
	if want == nil {
		if err != api.ErrBound || !sameRat(q, api.Rat{}) {
			t.Errorf("Rational(%v, %v) = %+v, %v, not ErrBound", a, m, q, err)
		}
		return
	}
	if err != api.OK || !sameRat(q, rat(want)) {
		t.Errorf("Rational(%v, %v) = %+v, %v, not %v", a, m, q, err, want)
	}
}

// fractionsModulo returns all fractions that are to be recovered modulo m, by their residues, from all numerators and denominators.
func fractionsModulo(t *testing.T, m int64) map[int64]*big.Rat {
	r := bound(big.NewInt(m)).Int64()
	fractions := map[int64]*big.Rat{}
	for d := int64(1); d <= r; d++ {
		if !coprime(big.NewInt(d), big.NewInt(m)) {
			continue
		}
		inverse := new(big.Int).ModInverse(big.NewInt(d), big.NewInt(m)).Int64()
		for n := -r; n <= r; n++ {
			a, x := ((n*inverse)%m+m)%m, big.NewRat(n, d)
			if fractions[a] != nil && fractions[a].Cmp(x) != 0 {
				t.Fatalf("two fractions have the residue %d modulo %d", a, m)
			}
			fractions[a] = x
		}
	}
	return fractions
}

func TestAllResiduesModuloSmallNumbers(t *testing.T) {
	for m := int64(2); m <= 400; m++ {
		fractions := fractionsModulo(t, m)
		for a := -m; a <= 2*m; a++ {
			expectFraction(t, big.NewInt(a), big.NewInt(m), fractions[(a+m)%m])
		}
	}
}

// moduli returns primes and their powers and products, powers of 2 and 10, numbers with many divisors, those around 2 r^2 and 2 r^2 + 1, at which the bound changes, and others.
func moduli(s *rand.Rand) []*big.Int {
	var list []*big.Int
	for _, k := range []uint{1, 2, 3, 4, 10} {
		for _, p := range []int64{3, 10007, mersenne} {
			list = append(list, new(big.Int).Exp(big.NewInt(p), big.NewInt(int64(8*k)), nil))
		}
		list = append(list, new(big.Int).Lsh(big.NewInt(1), 31*k), new(big.Int).Exp(big.NewInt(10), big.NewInt(int64(9*k)), nil))
		list = append(list, new(big.Int).MulRange(1, int64(10*k)))
		list = append(list, modulus(residues(new(big.Int), differentPrimes(s, int(k), 31))))
		root := sum(big.NewInt(1000), below(s, new(big.Int).Lsh(big.NewInt(1), 40*k)))
		square := product(big.NewInt(2), product(root, root))
		for d := int64(-1); d <= 3; d++ {
			list = append(list, sum(square, big.NewInt(d)))
		}
		list = append(list, sum(big.NewInt(1000), below(s, new(big.Int).Lsh(big.NewInt(1), 100*k))))
	}
	return list
}

// parts returns numbers from 1 to r: those at both ends, small ones, and others of all sizes.
func parts(s *rand.Rand, r *big.Int) []*big.Int {
	list := []*big.Int{big.NewInt(1), big.NewInt(2), big.NewInt(3), big.NewInt(10), r, difference(r, big.NewInt(1)), difference(r, big.NewInt(2))}
	for i := range 8 {
		n := below(s, r)
		list = append(list, sum(n.Rsh(n, uint(i*r.BitLen()/9)), big.NewInt(1)))
	}
	return list
}

// quotientModulo returns n/d modulo m, from 0 to m - 1; d is coprime to m.
func quotientModulo(n, d, m *big.Int) *big.Int {
	a := product(n, new(big.Int).ModInverse(d, m))
	return a.Mod(a, m)
}

// A fraction within the bounds is recovered from its residue, whatever multiple of m is added to it.
func TestFractionsAreRecovered(t *testing.T) {
	s := source(7)
	for _, m := range moduli(s) {
		r := bound(m)
		for _, d := range parts(s, r) {
			if !coprime(d, m) {
				continue
			}
			for _, n := range append(parts(s, r), new(big.Int)) {
				a := quotientModulo(n, d, m)
				x := new(big.Rat).SetFrac(n, d)
				expectFraction(t, a, m, x)
				expectFraction(t, difference(m, a), m, new(big.Rat).Neg(x))
				expectFraction(t, difference(a, m), m, x)
				expectFraction(t, sum(a, product(m, below(s, m))), m, x)
				expectFraction(t, difference(a, product(m, below(s, m))), m, x)
			}
		}
	}
}

// Just outside of the bounds there is nothing: n d' - n' d is not 0 and less than m if n or d is r + 1 and the other one is 1.
func TestFractionsOutsideOfTheBoundsAreNotRecovered(t *testing.T) {
	s := source(8)
	for _, m := range moduli(s) {
		if m.Cmp(big.NewInt(100)) < 0 {
			continue
		}
		next := sum(bound(m), big.NewInt(1))
		expectFraction(t, next, m, nil)
		expectFraction(t, new(big.Int).Neg(next), m, nil)
		if coprime(next, m) {
			expectFraction(t, quotientModulo(big.NewInt(1), next, m), m, nil)
			expectFraction(t, quotientModulo(big.NewInt(-1), next, m), m, nil)
		}
	}
}

// With n = a d modulo m and n and d within the bounds there is no other fraction than n/d, and it counts only if its denominator in lowest terms is coprime to m.
func TestDenominatorsThatAreNotCoprimeAreRefused(t *testing.T) {
	s := source(9)
	refused := 0
	for _, m := range moduli(s) {
		r := bound(m)
		for _, d := range parts(s, r) {
			common := new(big.Int).GCD(nil, nil, d, m)
			rest, factor := new(big.Int).Div(m, common), new(big.Int).Div(d, common)
			if common.Cmp(big.NewInt(1)) == 0 || !coprime(factor, rest) {
				continue
			}
			for _, k := range parts(s, r) {
				if product(k, common).Cmp(r) > 0 {
					continue
				}
				a := sum(quotientModulo(k, factor, rest), product(rest, below(s, common))) // k common = a d modulo m
				x := new(big.Rat).SetFrac(k, factor)
				if !coprime(x.Denom(), m) || !hasResidue(x, a, m) {
					x = nil
					refused++
				}
				expectFraction(t, a, m, x)
			}
		}
	}
	if refused < 500 {
		t.Errorf("only %d residues were to be refused", refused)
	}
}

// hasResidue reports whether n = a d modulo m for x = n/d.
func hasResidue(x *big.Rat, a, m *big.Int) bool {
	d := difference(x.Num(), product(a, x.Denom()))
	return d.Mod(d, m).Sign() == 0
}

// Of residues without a pattern, the results satisfy the conditions; where there is none, no denominator up to the bound gives one.
func TestResultsSatisfyTheConditions(t *testing.T) {
	s := source(10)
	found, refused := 0, 0
	for range 1500 {
		m := big.NewInt(2 + s.Int64N(200000))
		a, r := below(s, m), bound(m)
		var want *big.Rat
		for d := big.NewInt(1); d.Cmp(r) <= 0; d.Add(d, big.NewInt(1)) {
			n := product(a, d)
			n.Mod(n, m)
			if n.Cmp(r) > 0 {
				n.Sub(n, m)
			}
			if n.CmpAbs(r) <= 0 && coprime(d, m) {
				want = new(big.Rat).SetFrac(n, d)
				break
			}
		}
		expectFraction(t, a, m, want)
		if want != nil {
			found++
		} else {
			refused++
		}
	}
	if found < 200 || refused < 200 {
		t.Errorf("%d fractions and %d refusals are no test", found, refused)
	}
}
