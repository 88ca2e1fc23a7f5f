package integer_test

import (
	"math/big"
	"testing"

	"torsion/api"
	"torsion/integer"
)

// P1.3, and P1.1 for A5 and A6: quotients, remainders and greatest common divisors.

// checkDivMod compares a division with Euclid's division of math/big, whose remainders are not negative either.
func checkDivMod(t *testing.T, x, y *big.Int) {
	t.Helper()
	q, r, err := integer.DivMod(fromBig(x), fromBig(y))
	if y.Sign() == 0 {
		if err != api.ErrZero || !isZero(q) || !isZero(r) {
			t.Errorf("DivMod(%v, 0) = %+v, %+v, %v", x, q, r, err)
		}
		return
	}
	quotient, rest := new(big.Int).DivMod(x, y, new(big.Int))
	if err != api.OK || !same(q, fromBig(quotient)) || !same(r, fromBig(rest)) {
		t.Errorf("DivMod(%v, %v) = %+v, %+v, %v", x, y, q, r, err)
	}
}

func TestDivMod(t *testing.T) {
	pairs(func(x, y *big.Int) { checkDivMod(t, x, y) })
}

func TestDivModExamples(t *testing.T) {
	for _, x := range []struct{ a, b, q, r int64 }{{-7, 2, -4, 1}, {7, -2, -3, 1}, {7, 2, 3, 1}, {-7, -2, 4, 1}, {-6, 3, -2, 0}, {0, -3, 0, 0}, {2, 5, 0, 2}, {-2, -5, 1, 3}} {
		q, r, err := integer.DivMod(integer.Of(x.a), integer.Of(x.b))
		if err != api.OK || !same(q, integer.Of(x.q)) || !same(r, integer.Of(x.r)) {
			t.Errorf("DivMod(%d, %d) = %+v, %+v, %v", x.a, x.b, q, r, err)
		}
	}
}

// Quotients whose limbs are the greatest ones, and dividends next to multiples, are those for which an estimated limb has to be corrected.
func TestDivModNextToMultiples(t *testing.T) {
	s := source(5)
	for range 4000 {
		y, q := s.number(6), s.number(6)
		x := new(big.Int).Mul(y, q)
		for d := int64(-1); d <= 1; d++ {
			checkDivMod(t, new(big.Int).Add(x, big.NewInt(d)), y)
		}
	}
}

func TestDivModWithCorrectedEstimates(t *testing.T) {
	for _, x := range [][2][]uint32{
		{{3, 0, 1 << 31}, {1, 0, 1 << 29}},
		{{0, 0, 1 << 31, 1<<31 - 1}, {1, 0, 1 << 31}},
		{{0, 1<<32 - 2, 1 << 31}, {1<<32 - 1, 1 << 31}},
		{{0, 0, 0, 1<<31 - 1, 1 << 31}, {1<<32 - 1, 0, 1 << 31}},
		{{1<<32 - 1, 1<<32 - 1, 1<<32 - 2, 1<<32 - 1}, {1<<32 - 1, 1<<32 - 1}},
		{{0, 0, 1<<32 - 1, 1<<32 - 1, 1 << 31}, {0, 1<<32 - 1, 1<<32 - 1}},
	} {
		checkDivMod(t, toBig(api.Int{Mag: x[0]}), toBig(api.Int{Mag: x[1]}))
	}
}

func TestDivisionIsUnique(t *testing.T) {
	s := source(6)
	for range 2000 {
		q, b := fromBig(s.number(5)), fromBig(s.number(5))
		if integer.Sign(b) == 0 {
			continue
		}
		r := fromBig(new(big.Int).Mod(s.number(6), toBig(integer.Abs(b))))
		quotient, rest, err := integer.DivMod(integer.Add(integer.Mul(q, b), r), b)
		if err != api.OK || !same(quotient, q) || !same(rest, r) {
			t.Errorf("%+v %+v + %+v: %+v, %+v, %v", q, b, r, quotient, rest, err)
		}
	}
}

// divides reports whether a divides b; only 0 is a multiple of 0.
func divides(a, b api.Int) bool {
	if integer.Sign(a) == 0 {
		return integer.Sign(b) == 0
	}
	_, r, err := integer.DivMod(b, a)
	return err == api.OK && isZero(r)
}

func TestGcd(t *testing.T) {
	pairs(func(x, y *big.Int) {
		want := new(big.Int).GCD(nil, nil, new(big.Int).Abs(x), new(big.Int).Abs(y))
		g := integer.Gcd(fromBig(x), fromBig(y))
		expect(t, g, want, "Gcd", x, y)
		if !divides(g, fromBig(x)) || !divides(g, fromBig(y)) {
			t.Errorf("Gcd(%v, %v) = %v divides not both", x, y, toBig(g))
		}
	})
	for _, x := range [][3]int64{{-12, 18, 6}, {0, 0, 0}, {0, -5, 5}, {-5, 0, 5}, {17, 5, 1}, {-24, -36, 12}} {
		expect(t, integer.Gcd(integer.Of(x[0]), integer.Of(x[1])), big.NewInt(x[2]), "Gcd", big.NewInt(x[0]), big.NewInt(x[1]))
	}
}

func TestCommonDivisorsDivideTheGreatest(t *testing.T) {
	triples(func(a, b, c api.Int) {
		g := integer.Gcd(integer.Mul(a, c), integer.Mul(b, c))
		if !divides(c, g) {
			t.Errorf("%+v does not divide %+v", c, g)
		}
		if !same(g, integer.Mul(integer.Gcd(a, b), integer.Abs(c))) {
			t.Errorf("Gcd of multiples: %+v, %+v, %+v", a, b, c)
		}
	})
}

// checkExt checks the combination, and that its coefficients are as small as A6 says.
func checkExt(t *testing.T, x, y *big.Int) {
	t.Helper()
	g, s, u := integer.Ext(fromBig(x), fromBig(y))
	if x.Sign() == 0 && y.Sign() == 0 {
		if !isZero(g) || !isZero(s) || !isZero(u) {
			t.Errorf("Ext(0, 0) = %+v, %+v, %+v", g, s, u)
		}
		return
	}
	divisor := new(big.Int).GCD(nil, nil, new(big.Int).Abs(x), new(big.Int).Abs(y))
	if !same(g, fromBig(divisor)) || !integer.Valid(s) || !integer.Valid(u) {
		t.Errorf("Ext(%v, %v) = %+v, %+v, %+v", x, y, g, s, u)
		return
	}
	combination := new(big.Int).Add(new(big.Int).Mul(toBig(s), x), new(big.Int).Mul(toBig(u), y))
	if combination.Cmp(divisor) != 0 {
		t.Errorf("Ext(%v, %v): %v, %v give %v", x, y, toBig(s), toBig(u), combination)
	}
	bounded := func(c api.Int, other *big.Int) bool {
		limit := new(big.Int).Quo(other, divisor)
		return toBig(c).CmpAbs(limit) <= 0 || toBig(c).CmpAbs(big.NewInt(1)) <= 0
	}
	if !bounded(s, y) || !bounded(u, x) {
		t.Errorf("Ext(%v, %v): %v, %v are too large", x, y, toBig(s), toBig(u))
	}
}

func TestExt(t *testing.T) {
	pairs(func(x, y *big.Int) { checkExt(t, x, y) })
	s := source(7)
	for range 1000 {
		common := s.number(4)
		checkExt(t, new(big.Int).Mul(common, s.number(4)), new(big.Int).Mul(common, s.number(4)))
	}
}

func TestExtOfNeighboursInTheSequenceOfFibonacci(t *testing.T) {
	x, y := big.NewInt(0), big.NewInt(1)
	for range 200 {
		x, y = y, new(big.Int).Add(x, y)
		checkExt(t, x, y)
		checkExt(t, y, new(big.Int).Neg(x))
	}
}
