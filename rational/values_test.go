package rational_test

import (
	"math/big"
	"math/rand/v2"
	"slices"
	"testing"

	"torsion/api"
	"torsion/integer"
)

// The tests compare with math/big, to which numbers are converted by their decimal notation.

// whole returns the valid integer n.
func whole(n *big.Int) api.Int {
	a, err := integer.Read(n.String())
	if err != api.OK {
		panic("too long for a test: " + n.String())
	}
	return a
}

// rat returns the valid rational number x, which math/big keeps in lowest terms.
func rat(x *big.Rat) api.Rat {
	return api.Rat{Num: whole(x.Num()), Den: whole(x.Denom())}
}

// quotient returns the valid rational number n/d.
func quotient(n, d int64) api.Rat { return rat(big.NewRat(n, d)) }

// sameInt reports whether a and b are the same limbs and signs.
func sameInt(a, b api.Int) bool { return a.Neg == b.Neg && slices.Equal(a.Mag, b.Mag) }

// same reports whether a and b are the same numerators and denominators.
func same(a, b api.Rat) bool { return sameInt(a.Num, b.Num) && sameInt(a.Den, b.Den) }

// isZeroValue reports whether a is what must be returned beside an error.
func isZeroValue(a api.Rat) bool { return same(a, api.Rat{}) }

// expect fails unless a is the valid rational number want.
func expect(t *testing.T, a api.Rat, want *big.Rat, what string, arguments ...*big.Rat) {
	t.Helper()
	if !same(a, rat(want)) {
		t.Errorf("%s of %v is %+v, not %v", what, arguments, a, want)
	}
}

// source returns numbers without a pattern, the same ones in every run.
func source(seed uint64) *rand.Rand { return rand.New(rand.NewPCG(seed, 2)) }

// randomInt returns a number of up to this many binary digits.
func randomInt(s *rand.Rand, bits int) *big.Int {
	n := new(big.Int)
	for range bits / 32 {
		n.Add(n.Lsh(n, 32), big.NewInt(int64(s.Uint32())))
	}
	n.Rsh(n, uint(s.IntN(bits)))
	if s.IntN(2) == 0 {
		n.Neg(n)
	}
	return n
}

// randomRat returns a quotient of numbers of up to this many binary digits.
func randomRat(s *rand.Rand, bits int) *big.Rat {
	den := randomInt(s, bits)
	if den.Sign() == 0 {
		den.SetInt64(1)
	}
	return new(big.Rat).SetFrac(randomInt(s, bits), den)
}

// small returns all rational numbers from -5 to 5 with denominators up to 5, and some of them more than once.
func small() []*big.Rat {
	var list []*big.Rat
	for d := int64(1); d <= 5; d++ {
		for n := -5 * d; n <= 5*d; n++ {
			list = append(list, big.NewRat(n, d))
		}
	}
	return list
}

// edges returns 0, and numbers of both signs whose parts are next to the powers of 2 at which a limb or a word ends.
func edges() []*big.Rat {
	var sizes []*big.Int
	for _, bits := range []uint{0, 31, 32, 63, 64, 96} {
		power := new(big.Int).Lsh(big.NewInt(1), bits)
		sizes = append(sizes, new(big.Int).Sub(power, big.NewInt(1)), power, new(big.Int).Add(power, big.NewInt(1)))
	}
	var list []*big.Rat
	for _, n := range sizes {
		for _, d := range sizes[1:] {
			x := new(big.Rat).SetFrac(n, d)
			list = append(list, x, new(big.Rat).Neg(x))
		}
	}
	return list
}

// samples returns small numbers, edges, and others of up to 320 binary digits in each part.
func samples() []*big.Rat {
	list, s := append(small(), edges()...), source(1)
	for i := range 2000 {
		list = append(list, randomRat(s, 32*(1+i%10)))
	}
	return list
}

// pairs calls f for pairs of numbers: all pairs of small ones, and pairs of samples, some of them with the same denominator, the same number twice, or one number and its opposite or its inverse.
func pairs(f func(x, y *big.Rat)) {
	for _, x := range small() {
		for _, y := range small() {
			f(x, y)
		}
	}
	list, s := samples(), source(2)
	for range 3000 {
		x, y := list[s.IntN(len(list))], list[s.IntN(len(list))]
		f(x, y)
		f(x, new(big.Rat).SetFrac(y.Num(), x.Denom()))
	}
	for _, x := range list {
		f(x, x)
		f(x, new(big.Rat).Neg(x))
		if x.Sign() != 0 {
			f(x, new(big.Rat).Inv(x))
		}
	}
}

// triples calls f for triples of a few small numbers, and of samples.
func triples(f func(a, b, c api.Rat)) {
	few := []api.Rat{quotient(-7, 3), quotient(-1, 1), quotient(-1, 2), quotient(0, 1), quotient(1, 3), quotient(1, 1), quotient(3, 2)}
	for _, a := range few {
		for _, b := range few {
			for _, c := range few {
				f(a, b, c)
			}
		}
	}
	list, s := samples(), source(3)
	for range 3000 {
		f(rat(list[s.IntN(len(list))]), rat(list[s.IntN(len(list))]), rat(list[s.IntN(len(list))]))
	}
}
