package integer_test

import (
	"math"
	"math/big"
	"slices"
	"testing"

	"torsion/api"
	"torsion/integer"
)

// P1.1 for A1 to A3: conversions, comparisons, sums and products.

func TestOf(t *testing.T) {
	for _, x := range []struct {
		n    int64
		neg  bool
		mag  []uint32
		name string
	}{
		{0, false, nil, "zero"}, {1, false, []uint32{1}, "one"}, {-5, true, []uint32{5}, "negative"},
		{math.MaxUint32, false, []uint32{math.MaxUint32}, "one full limb"}, {1 << 32, false, []uint32{0, 1}, "two limbs"},
		{-1 << 32, true, []uint32{0, 1}, "two limbs, negative"}, {math.MaxInt64, false, []uint32{math.MaxUint32, math.MaxInt32}, "greatest"},
		{math.MinInt64, true, []uint32{0, 1 << 31}, "least"}, {math.MinInt64 + 1, true, []uint32{math.MaxUint32, math.MaxInt32}, "next to least"},
	} {
		if a := integer.Of(x.n); a.Neg != x.neg || !slices.Equal(a.Mag, x.mag) {
			t.Errorf("%s: Of(%d) = %+v", x.name, x.n, a)
		}
	}
	s := source(4)
	for i := range 1000 {
		n := int64(s.next()) >> (i % 64)
		expect(t, integer.Of(n), big.NewInt(n), "Of", big.NewInt(n))
	}
}

func TestValid(t *testing.T) {
	for _, a := range []api.Int{{}, {Mag: []uint32{}}, {Mag: []uint32{1}}, {Neg: true, Mag: []uint32{1}}, {Mag: []uint32{0, 1}}, {Neg: true, Mag: []uint32{0, 0, math.MaxUint32}}} {
		if !integer.Valid(a) {
			t.Errorf("%+v is not valid", a)
		}
	}
	for _, a := range []api.Int{{Neg: true}, {Neg: true, Mag: []uint32{}}, {Mag: []uint32{0}}, {Neg: true, Mag: []uint32{0}}, {Mag: []uint32{1, 0}}, {Neg: true, Mag: []uint32{1, 2, 0}}, {Mag: []uint32{0, 0, 0}}} {
		if integer.Valid(a) {
			t.Errorf("%+v is valid", a)
		}
	}
}

func TestSmall(t *testing.T) {
	for _, x := range samples(2000) {
		n, ok := integer.Small(fromBig(x))
		if ok != x.IsInt64() || ok && n != x.Int64() || !ok && n != 0 {
			t.Errorf("Small(%v) = %d, %v", x, n, ok)
		}
	}
}

func TestSmallAtTheEndsOfItsRange(t *testing.T) {
	for _, x := range []struct {
		text string
		n    int64
		ok   bool
	}{
		{"0", 0, true}, {"-1", -1, true}, {"4294967296", 1 << 32, true},
		{"9223372036854775807", math.MaxInt64, true}, {"9223372036854775808", 0, false},
		{"-9223372036854775808", math.MinInt64, true}, {"-9223372036854775809", 0, false},
		{"18446744073709551615", 0, false}, {"-18446744073709551615", 0, false}, {"18446744073709551616", 0, false}, {"-18446744073709551617", 0, false},
	} {
		if n, ok := integer.Small(parse(x.text)); n != x.n || ok != x.ok {
			t.Errorf("Small(%s) = %d, %v", x.text, n, ok)
		}
	}
}

func TestComparisons(t *testing.T) {
	pairs(func(x, y *big.Int) {
		if c := integer.Cmp(fromBig(x), fromBig(y)); c != x.Cmp(y) {
			t.Errorf("Cmp(%v, %v) = %d", x, y, c)
		}
	})
	for _, x := range samples(1000) {
		if s := integer.Sign(fromBig(x)); s != x.Sign() {
			t.Errorf("Sign(%v) = %d", x, s)
		}
		expect(t, integer.Abs(fromBig(x)), new(big.Int).Abs(x), "Abs", x)
		expect(t, integer.Neg(fromBig(x)), new(big.Int).Neg(x), "Neg", x)
	}
}

func TestSumsAndProducts(t *testing.T) {
	pairs(func(x, y *big.Int) {
		a, b := fromBig(x), fromBig(y)
		expect(t, integer.Add(a, b), new(big.Int).Add(x, y), "Add", x, y)
		expect(t, integer.Sub(a, b), new(big.Int).Sub(x, y), "Sub", x, y)
		expect(t, integer.Mul(a, b), new(big.Int).Mul(x, y), "Mul", x, y)
	})
}

func TestCarriesOverSeveralLimbs(t *testing.T) {
	top, full := api.Int{Mag: []uint32{0, 0, 0, 0, 1}}, api.Int{Mag: slices.Repeat([]uint32{math.MaxUint32}, 4)}
	if a := integer.Add(full, integer.Of(1)); !same(a, top) {
		t.Errorf("(2^128 - 1) + 1 = %+v", a)
	}
	if a := integer.Sub(top, integer.Of(1)); !same(a, full) {
		t.Errorf("2^128 - 1 = %+v", a)
	}
	if a := integer.Sub(integer.Of(-1), full); !same(a, integer.Neg(top)) {
		t.Errorf("-1 - (2^128 - 1) = %+v", a)
	}
	square := []uint32{1, 0, 0, 0, math.MaxUint32 - 1, math.MaxUint32, math.MaxUint32, math.MaxUint32}
	if a := integer.Mul(full, full); !same(a, api.Int{Mag: square}) {
		t.Errorf("(2^128 - 1)^2 = %+v", a)
	}
	if a := integer.Sub(full, full); !isZero(a) {
		t.Errorf("(2^128 - 1) - (2^128 - 1) = %+v", a)
	}
	if a := integer.Mul(full, api.Int{}); !isZero(a) {
		t.Errorf("(2^128 - 1) 0 = %+v", a)
	}
}
