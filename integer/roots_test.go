package integer_test

import (
	"math"
	"math/big"
	"testing"

	"torsion/api"
	"torsion/integer"
)

// P1.5, and P1.1 for A8: square roots and numbers of binary digits.

// checkRoot compares a root with that of math/big, and with its definition.
func checkRoot(t *testing.T, x *big.Int) {
	t.Helper()
	r, err := integer.Root(fromBig(x))
	if x.Sign() < 0 {
		if err != api.ErrArg || !isZero(r) {
			t.Errorf("Root(%v) = %+v, %v", x, r, err)
		}
		return
	}
	if err != api.OK {
		t.Errorf("Root(%v): %v", x, err)
	}
	expect(t, r, new(big.Int).Sqrt(x), "Root", x)
	after := integer.Add(r, integer.Of(1))
	if integer.Cmp(integer.Mul(r, r), fromBig(x)) > 0 || integer.Cmp(integer.Mul(after, after), fromBig(x)) <= 0 {
		t.Errorf("Root(%v) = %v is not the floor", x, toBig(r))
	}
}

func TestRoot(t *testing.T) {
	for n := int64(-10); n <= 1000; n++ {
		checkRoot(t, big.NewInt(n))
	}
	for _, x := range samples(3000) {
		checkRoot(t, x)
	}
}

func TestRootNextToSquares(t *testing.T) {
	for _, x := range samples(1000) {
		for d := int64(-1); d <= 1; d++ {
			checkRoot(t, new(big.Int).Add(new(big.Int).Mul(x, x), big.NewInt(d)))
		}
	}
}

func TestBits(t *testing.T) {
	for _, x := range samples(3000) {
		if n := integer.Bits(fromBig(x)); n != x.BitLen() {
			t.Errorf("Bits(%v) = %d", x, n)
		}
	}
	for _, x := range []struct {
		n    int64
		want int
	}{{0, 0}, {1, 1}, {-1, 1}, {7, 3}, {-8, 4}, {math.MaxUint32, 32}, {1 << 32, 33}, {math.MaxInt64, 63}, {math.MinInt64, 64}} {
		if got := integer.Bits(integer.Of(x.n)); got != x.want {
			t.Errorf("Bits(%d) = %d", x.n, got)
		}
	}
}

func TestBitsAreTheLeastExponent(t *testing.T) {
	for n := range 257 {
		power, _ := integer.Pow(integer.Of(2), n)
		if got := integer.Bits(power); got != n+1 {
			t.Errorf("Bits(2^%d) = %d", n, got)
		}
		if got := integer.Bits(integer.Sub(integer.Of(1), power)); got != n {
			t.Errorf("Bits(1 - 2^%d) = %d", n, got)
		}
	}
}
