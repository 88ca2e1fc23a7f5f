package rational_test

import (
	"math/big"
	"testing"

	"torsion/api"
	"torsion/integer"
	"torsion/rational"
)

// P2.4: results are valid, and a fraction that is extended is the same number.

// inLowestTerms reports, without package rational, whether the limbs of a are valid and math/big would keep a with the same parts.
func inLowestTerms(a api.Rat) bool {
	num, okNum := new(big.Int).SetString(integer.Text(a.Num), 10)
	den, okDen := new(big.Int).SetString(integer.Text(a.Den), 10)
	return okNum && okDen && den.Sign() > 0 && same(a, rat(new(big.Rat).SetFrac(num, den)))
}

func TestResultsAreValid(t *testing.T) {
	pairs(func(x, y *big.Rat) {
		list := results(rat(x), rat(y))
		numbers := list.rats
		for _, a := range list.attempts {
			if a.err == api.OK {
				numbers = append(numbers, a.r)
			}
		}
		for i, a := range numbers {
			if !inLowestTerms(a) || !rational.Valid(a) {
				t.Errorf("%v, %v: result %d is %+v", x, y, i, a)
			}
		}
		for i, a := range list.ints {
			if !integer.Valid(a) {
				t.Errorf("%v, %v: integer %d is %+v", x, y, i, a)
			}
		}
	})
}

func TestExtendedFractions(t *testing.T) {
	s := source(5)
	factors := []*big.Int{big.NewInt(1), big.NewInt(-1), big.NewInt(2), big.NewInt(-6), new(big.Int).Lsh(big.NewInt(1), 32), new(big.Int).Lsh(big.NewInt(-3), 64)}
	for _, x := range samples() {
		k := randomInt(s, 96)
		if k.Sign() == 0 {
			continue
		}
		for _, factor := range append(factors, k) {
			n, d := new(big.Int).Mul(x.Num(), factor), new(big.Int).Mul(x.Denom(), factor)
			if a, err := rational.Of(whole(n), whole(d)); err != api.OK || !same(a, rat(x)) {
				t.Errorf("%v, extended by %v: %+v, %v", x, factor, a, err)
			}
		}
	}
}
