package integer_test

import (
	"math"
	"math/big"
	"testing"

	"torsion/api"
	"torsion/integer"
)

// P1.4, and P1.1 for A4: powers.

func TestPow(t *testing.T) {
	bases := append(edges(), big.NewInt(-3), big.NewInt(7))
	for _, x := range bases {
		for _, n := range []int{0, 1, 2, 3, 4, 5, 15, 16, 17} {
			p, err := integer.Pow(fromBig(x), n)
			if err != api.OK {
				t.Errorf("Pow(%v, %d): %v", x, n, err)
			}
			expect(t, p, new(big.Int).Exp(x, big.NewInt(int64(n)), nil), "Pow", x, big.NewInt(int64(n)))
		}
	}
}

func TestPowForAllExponents(t *testing.T) {
	for _, x := range []int64{-3, -1, 0, 1, 2, 10, math.MinInt64} {
		want := big.NewInt(1)
		for n := 0; n <= 256; n++ {
			p, err := integer.Pow(integer.Of(x), n)
			if err != api.OK || !same(p, fromBig(want)) {
				t.Errorf("Pow(%d, %d) = %+v, %v", x, n, p, err)
			}
			want = new(big.Int).Mul(want, big.NewInt(x))
		}
	}
}

func TestPowWithExponentsOutside(t *testing.T) {
	for _, n := range []int{-1, 257, -256, 258, 512, math.MaxInt, math.MinInt} {
		for _, a := range []api.Int{{}, integer.Of(1), integer.Of(-2)} {
			if p, err := integer.Pow(a, n); err != api.ErrArg || !isZero(p) {
				t.Errorf("Pow(%+v, %d) = %+v, %v", a, n, p, err)
			}
		}
	}
}

func TestPowersWithSummedExponents(t *testing.T) {
	power := func(a api.Int, n int) api.Int {
		p, err := integer.Pow(a, n)
		if err != api.OK {
			t.Fatalf("exponent %d: %v", n, err)
		}
		return p
	}
	for _, text := range []string{"0", "1", "-1", "2", "-3", "4294967295", "-4294967296", "18446744073709551557"} {
		a := parse(text)
		for m := 0; m <= 256; m += 1 + m/5 {
			for n := 0; m+n <= 256; n += 1 + n/5 {
				if !same(integer.Mul(power(a, m), power(a, n)), power(a, m+n)) {
					t.Errorf("%s: exponents %d and %d", text, m, n)
				}
			}
		}
	}
}
