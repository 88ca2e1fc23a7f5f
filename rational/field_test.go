package rational_test

import (
	"testing"

	"torsion/api"
	"torsion/rational"
)

// P2.2: the axioms of a field.

func TestAxiomsOfAField(t *testing.T) {
	add, mul, zero, one := rational.Add, rational.Mul, quotient(0, 1), quotient(1, 1)
	triples(func(a, b, c api.Rat) {
		axioms := []struct {
			name        string
			left, right api.Rat
		}{
			{"associative sums", add(add(a, b), c), add(a, add(b, c))},
			{"commutative sums", add(a, b), add(b, a)},
			{"zero", add(a, zero), a},
			{"opposite", add(a, rational.Neg(a)), zero},
			{"difference", rational.Sub(a, b), add(a, rational.Neg(b))},
			{"associative products", mul(mul(a, b), c), mul(a, mul(b, c))},
			{"commutative products", mul(a, b), mul(b, a)},
			{"one", mul(a, one), a},
			{"distributive", mul(a, add(b, c)), add(mul(a, b), mul(a, c))},
		}
		for _, x := range axioms {
			if !same(x.left, x.right) {
				t.Errorf("%s: %+v, %+v, %+v", x.name, a, b, c)
			}
		}
	})
}

func TestEveryNumberButZeroHasAnInverse(t *testing.T) {
	zero, one := quotient(0, 1), quotient(1, 1)
	triples(func(a, b, _ api.Rat) {
		inverse, err := rational.Div(one, b)
		quotient, errOfQuotient := rational.Div(a, b)
		if same(b, zero) {
			if err != api.ErrZero || errOfQuotient != api.ErrZero || !isZeroValue(inverse) || !isZeroValue(quotient) {
				t.Errorf("division by 0: %+v, %v; %+v, %v", inverse, err, quotient, errOfQuotient)
			}
			return
		}
		if err != api.OK || errOfQuotient != api.OK || !same(rational.Mul(b, inverse), one) {
			t.Errorf("inverse of %+v: %+v, %v", b, inverse, err)
		}
		if !same(quotient, rational.Mul(a, inverse)) || !same(rational.Mul(quotient, b), a) {
			t.Errorf("%+v / %+v = %+v", a, b, quotient)
		}
	})
	if same(zero, one) {
		t.Error("0 is 1")
	}
}
