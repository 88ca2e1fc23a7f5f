package rational_test

import (
	"math/big"
	"testing"

	"torsion/api"
	"torsion/integer"
	"torsion/rational"
)

// P2.1 for B1 to B3: construction, validity, comparisons and the four operations.

func TestOf(t *testing.T) {
	s := source(4)
	check := func(n, d *big.Int) {
		a, err := rational.Of(whole(n), whole(d))
		if d.Sign() == 0 {
			if err != api.ErrZero || !isZeroValue(a) {
				t.Errorf("Of(%v, 0) = %+v, %v", n, a, err)
			}
			return
		}
		if err != api.OK {
			t.Errorf("Of(%v, %v): %v", n, d, err)
		}
		want := new(big.Rat).SetFrac(n, d)
		expect(t, a, want, "Of", want)
	}
	for n := int64(-30); n <= 30; n++ {
		for d := int64(-30); d <= 30; d++ {
			check(big.NewInt(n), big.NewInt(d))
		}
	}
	for i := range 4000 {
		check(randomInt(s, 32*(1+i%10)), randomInt(s, 32*(1+i%7)))
	}
}

func TestOfExamples(t *testing.T) {
	for _, x := range []struct {
		n, d, num, den int64
		err            api.Errno
	}{
		{6, -4, -3, 2, api.OK}, {-6, -4, 3, 2, api.OK}, {0, 5, 0, 1, api.OK}, {0, -5, 0, 1, api.OK}, {-7, 7, -1, 1, api.OK},
		{3, 0, 0, 0, api.ErrZero}, {0, 0, 0, 0, api.ErrZero}, {-3, 0, 0, 0, api.ErrZero},
	} {
		a, err := rational.Of(integer.Of(x.n), integer.Of(x.d))
		if err != x.err || !same(a, api.Rat{Num: integer.Of(x.num), Den: integer.Of(x.den)}) {
			t.Errorf("Of(%d, %d) = %+v, %v", x.n, x.d, a, err)
		}
	}
}

func TestWhole(t *testing.T) {
	for _, x := range samples() {
		a := rational.Whole(whole(x.Num()))
		expect(t, a, new(big.Rat).SetInt(x.Num()), "Whole", x)
	}
}

func TestValid(t *testing.T) {
	for _, x := range samples() {
		if !rational.Valid(rat(x)) {
			t.Errorf("%v is not valid", x)
		}
	}
	one, two, six := integer.Of(1), integer.Of(2), integer.Of(6)
	long := api.Int{Mag: []uint32{0, 0, 4}}
	for _, a := range []api.Rat{
		{}, {Num: one}, {Num: integer.Of(-1)}, {Num: two}, // the denominator 0
		{Num: one, Den: integer.Of(-2)}, {Den: integer.Of(-1)}, {Num: integer.Of(-3), Den: integer.Of(-1)}, // a negative one
		{Den: two}, {Num: two, Den: two}, {Num: integer.Of(-4), Den: six}, {Num: six, Den: integer.Of(9)}, {Num: two, Den: long}, {Num: long, Den: six}, {Num: long, Den: long}, // common divisors
		{Num: api.Int{Neg: true}, Den: one}, {Num: api.Int{Mag: []uint32{0}}, Den: one}, {Num: api.Int{Mag: []uint32{1, 0}}, Den: two}, // invalid numerators
		{Num: one, Den: api.Int{Mag: []uint32{2, 0}}}, {Num: one, Den: api.Int{Mag: []uint32{0}}}, {Den: api.Int{Mag: []uint32{1, 0}}}, {Num: one, Den: api.Int{Neg: true}}, // invalid denominators
	} {
		if rational.Valid(a) {
			t.Errorf("%+v is valid", a)
		}
	}
}

func TestComparisons(t *testing.T) {
	pairs(func(x, y *big.Rat) {
		if c := rational.Cmp(rat(x), rat(y)); c != x.Cmp(y) {
			t.Errorf("Cmp(%v, %v) = %d", x, y, c)
		}
	})
	for _, x := range samples() {
		if s := rational.Sign(rat(x)); s != x.Sign() {
			t.Errorf("Sign(%v) = %d", x, s)
		}
	}
	if c := rational.Cmp(quotient(-2, 3), quotient(-3, 5)); c != -1 {
		t.Errorf("Cmp(-2/3, -3/5) = %d", c)
	}
	if s := rational.Sign(quotient(-1, 7)); s != -1 {
		t.Errorf("Sign(-1/7) = %d", s)
	}
}

func TestOperations(t *testing.T) {
	pairs(func(x, y *big.Rat) {
		a, b := rat(x), rat(y)
		expect(t, rational.Add(a, b), new(big.Rat).Add(x, y), "Add", x, y)
		expect(t, rational.Sub(a, b), new(big.Rat).Sub(x, y), "Sub", x, y)
		expect(t, rational.Mul(a, b), new(big.Rat).Mul(x, y), "Mul", x, y)
		q, err := rational.Div(a, b)
		if y.Sign() == 0 {
			if err != api.ErrZero || !isZeroValue(q) {
				t.Errorf("Div(%v, 0) = %+v, %v", x, q, err)
			}
			return
		}
		if err != api.OK {
			t.Errorf("Div(%v, %v): %v", x, y, err)
		}
		expect(t, q, new(big.Rat).Quo(x, y), "Div", x, y)
	})
	for _, x := range samples() {
		expect(t, rational.Neg(rat(x)), new(big.Rat).Neg(x), "Neg", x)
	}
}

func TestOperationExamples(t *testing.T) {
	half, err := rational.Div(quotient(1, 2), quotient(3, 4))
	for _, x := range []struct {
		name      string
		got, want api.Rat
	}{
		{"1/6 + 1/3", rational.Add(quotient(1, 6), quotient(1, 3)), quotient(1, 2)},
		{"1/6 - 1/6", rational.Sub(quotient(1, 6), quotient(1, 6)), quotient(0, 1)},
		{"4/3 * 3/8", rational.Mul(quotient(4, 3), quotient(3, 8)), quotient(1, 2)},
		{"1/2 divided by 3/4", half, quotient(2, 3)},
	} {
		if !same(x.got, x.want) {
			t.Errorf("%s = %+v", x.name, x.got)
		}
	}
	if err != api.OK {
		t.Error(err)
	}
}
