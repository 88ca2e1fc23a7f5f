package rational_test

import (
	"math/big"
	"testing"

	"torsion/api"
	"torsion/integer"
	"torsion/rational"
)

// P2.5, and P2.1 for B4: integers next to a number.

// checkRounding compares with the definitions of the floor and of the nearest integer.
func checkRounding(t *testing.T, x *big.Rat) {
	t.Helper()
	a, one := rat(x), big.NewRat(1, 1)
	floor := value(rational.Floor(a))
	if floor.Cmp(x) > 0 || new(big.Rat).Add(floor, one).Cmp(x) <= 0 {
		t.Errorf("Floor(%v) = %v", x, floor)
	}
	round := value(rational.Round(a))
	gap := new(big.Rat).Sub(round, x)
	if gap.Cmp(big.NewRat(-1, 2)) <= 0 || gap.Cmp(big.NewRat(1, 2)) > 0 {
		t.Errorf("Round(%v) = %v", x, round)
	}
	whole := rational.Integral(a)
	if whole != x.IsInt() || whole != (floor.Cmp(x) == 0) || whole != (round.Cmp(x) == 0) {
		t.Errorf("%v: Integral is %v, the floor is %v, and the nearest integer is %v", x, whole, floor, round)
	}
}

// value returns a as a number of math/big.
func value(a api.Int) *big.Rat {
	x, ok := new(big.Rat).SetString(integer.Text(a))
	if !ok {
		panic("not a number")
	}
	return x
}

func TestRounding(t *testing.T) {
	for _, x := range samples() {
		checkRounding(t, x)
	}
}

// Numbers halfway between two integers, and next to them, are those whose nearest integer is decided by the last digit.
func TestRoundingNextToHalves(t *testing.T) {
	step := new(big.Rat).SetFrac(big.NewInt(1), new(big.Int).Lsh(big.NewInt(1), 100))
	for _, x := range samples() {
		half := new(big.Rat).Add(new(big.Rat).SetInt(x.Num()), big.NewRat(1, 2))
		checkRounding(t, half)
		checkRounding(t, new(big.Rat).Add(half, step))
		checkRounding(t, new(big.Rat).Sub(half, step))
		if n := rational.Round(rat(half)); !sameInt(n, whole(new(big.Int).Add(x.Num(), big.NewInt(1)))) {
			t.Errorf("Round(%v) = %s is not the greater one", half, integer.Text(n))
		}
	}
}

func TestRoundingExamples(t *testing.T) {
	for _, x := range []struct {
		n, d, floor, round int64
		integral           bool
	}{
		{7, 3, 2, 2, false}, {-7, 3, -3, -2, false}, {5, 2, 2, 3, false}, {-5, 2, -3, -2, false}, {1, 2, 0, 1, false}, {-1, 2, -1, 0, false},
		{0, 1, 0, 0, true}, {4, 2, 2, 2, true}, {-4, 2, -2, -2, true}, {-1, 3, -1, 0, false}, {2, 3, 0, 1, false}, {-2, 3, -1, -1, false},
	} {
		a := quotient(x.n, x.d)
		floor, round := rational.Floor(a), rational.Round(a)
		if !sameInt(floor, integer.Of(x.floor)) || !sameInt(round, integer.Of(x.round)) || rational.Integral(a) != x.integral {
			t.Errorf("%d/%d: %s, %s, %v", x.n, x.d, integer.Text(floor), integer.Text(round), rational.Integral(a))
		}
	}
}
