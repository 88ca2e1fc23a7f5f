package rational_test

import (
	"testing"

	"torsion/api"
	"torsion/rational"
)

// P2.3: Cmp is a total order, which sums and products with positive numbers preserve.

func TestOrder(t *testing.T) {
	triples(func(a, b, c api.Rat) {
		ab := rational.Cmp(a, b)
		if ab < -1 || ab > 1 || ab != -rational.Cmp(b, a) || (ab == 0) != same(a, b) || rational.Cmp(a, a) != 0 {
			t.Errorf("not antisymmetric: %+v, %+v", a, b)
		}
		if ab <= 0 && rational.Cmp(b, c) <= 0 && rational.Cmp(a, c) > 0 {
			t.Errorf("not transitive: %+v, %+v, %+v", a, b, c)
		}
		if rational.Cmp(rational.Add(a, c), rational.Add(b, c)) != ab {
			t.Errorf("not preserved by sums: %+v, %+v, %+v", a, b, c)
		}
		if rational.Cmp(rational.Mul(a, c), rational.Mul(b, c)) != ab*rational.Sign(c) {
			t.Errorf("not preserved by products: %+v, %+v, %+v", a, b, c)
		}
		if rational.Sign(rational.Sub(a, b)) != ab || rational.Sign(a) != rational.Cmp(a, quotient(0, 1)) {
			t.Errorf("signs: %+v, %+v", a, b)
		}
	})
}
