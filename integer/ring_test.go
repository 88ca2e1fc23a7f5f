package integer_test

import (
	"testing"

	"torsion/api"
	"torsion/integer"
)

// P1.2: the laws of a commutative ring, and an order that is compatible with it.

func TestLawsOfTheRing(t *testing.T) {
	add, mul, zero, one := integer.Add, integer.Mul, integer.Of(0), integer.Of(1)
	triples(func(a, b, c api.Int) {
		laws := []struct {
			name        string
			left, right api.Int
		}{
			{"associative sums", add(add(a, b), c), add(a, add(b, c))},
			{"commutative sums", add(a, b), add(b, a)},
			{"zero", add(a, zero), a},
			{"inverse", add(a, integer.Neg(a)), zero},
			{"difference", integer.Sub(a, b), add(a, integer.Neg(b))},
			{"associative products", mul(mul(a, b), c), mul(a, mul(b, c))},
			{"commutative products", mul(a, b), mul(b, a)},
			{"one", mul(a, one), a},
			{"distributive", mul(a, add(b, c)), add(mul(a, b), mul(a, c))},
		}
		for _, law := range laws {
			if !same(law.left, law.right) {
				t.Errorf("%s: %+v, %+v, %+v", law.name, a, b, c)
			}
		}
	})
}

func TestLawsOfTheOrder(t *testing.T) {
	triples(func(a, b, c api.Int) {
		ab := integer.Cmp(a, b)
		if ab != -integer.Cmp(b, a) || (ab == 0) != same(a, b) {
			t.Errorf("not antisymmetric: %+v, %+v", a, b)
		}
		if ab <= 0 && integer.Cmp(b, c) <= 0 && integer.Cmp(a, c) > 0 {
			t.Errorf("not transitive: %+v, %+v, %+v", a, b, c)
		}
		if integer.Cmp(integer.Add(a, c), integer.Add(b, c)) != ab {
			t.Errorf("not compatible with sums: %+v, %+v, %+v", a, b, c)
		}
		if integer.Cmp(integer.Mul(a, c), integer.Mul(b, c)) != ab*integer.Sign(c) {
			t.Errorf("not compatible with products: %+v, %+v, %+v", a, b, c)
		}
		if integer.Sign(a) != integer.Cmp(a, integer.Of(0)) || integer.Sign(integer.Abs(a)) < 0 {
			t.Errorf("sign of %+v", a)
		}
	})
}
