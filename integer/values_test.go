package integer_test

import (
	"math/big"
	"slices"
	"testing"

	"torsion/api"
	"torsion/integer"
)

// The tests compare with math/big, through conversions that do not use package integer.

// fromBig returns the valid integer n.
func fromBig(n *big.Int) api.Int {
	rest, low := new(big.Int).Abs(n), new(big.Int)
	var limbs []uint32
	for rest.Sign() > 0 {
		limbs = append(limbs, uint32(low.And(rest, big.NewInt(1<<32-1)).Uint64()))
		rest.Rsh(rest, 32)
	}
	return api.Int{Neg: n.Sign() < 0, Mag: limbs}
}

// toBig returns the value of a.
func toBig(a api.Int) *big.Int {
	n := new(big.Int)
	for _, limb := range slices.Backward(a.Mag) {
		n.Add(n.Lsh(n, 32), big.NewInt(int64(limb)))
	}
	if a.Neg {
		n.Neg(n)
	}
	return n
}

// number returns the number with these decimal digits.
func number(s string) *big.Int {
	n, ok := new(big.Int).SetString(s, 10)
	if !ok {
		panic("not a number: " + s)
	}
	return n
}

// parse returns the valid integer with these decimal digits.
func parse(s string) api.Int { return fromBig(number(s)) }

// same reports whether a and b are the same limbs and signs.
func same(a, b api.Int) bool { return a.Neg == b.Neg && slices.Equal(a.Mag, b.Mag) }

// isZero reports whether a is the zero value, as it must be beside an error.
func isZero(a api.Int) bool { return same(a, api.Int{}) }

// expect fails unless a is the valid integer want.
func expect(t *testing.T, a api.Int, want *big.Int, what string, arguments ...*big.Int) {
	t.Helper()
	if !same(a, fromBig(want)) {
		t.Errorf("%s of %v is %+v, not %v", what, arguments, a, want)
	}
}

// source is a fixed sequence of numbers without a pattern (xorshift), so that every run tests the same.
type source uint64

func (s *source) next() uint64 {
	*s ^= *s << 13
	*s ^= *s >> 7
	*s ^= *s << 17
	return uint64(*s)
}

// limb returns one limb; those at which carries and estimates go wrong are frequent.
func (s *source) limb() uint32 {
	special := []uint32{0, 1, 1<<31 - 1, 1 << 31, 1<<31 + 1, 1<<32 - 2, 1<<32 - 1}
	if n := s.next() >> 33; n%2 == 0 {
		return special[n/2%uint64(len(special))]
	}
	return uint32(s.next() >> 32)
}

// number returns a number with at most this number of limbs.
func (s *source) number(limbs int) *big.Int {
	a := api.Int{Neg: s.next()>>40&1 == 1}
	for range int(s.next()>>33) % (limbs + 1) {
		a.Mag = append(a.Mag, s.limb())
	}
	return toBig(a)
}

// edges returns 0 and numbers of both signs around the powers of 2 and 10 at which something may change.
func edges() []*big.Int {
	list := []*big.Int{new(big.Int)}
	around := func(n *big.Int) {
		for d := int64(-1); d <= 1; d++ {
			x := new(big.Int).Add(n, big.NewInt(d))
			list = append(list, x, new(big.Int).Neg(x))
		}
	}
	for _, bits := range []uint{1, 4, 31, 32, 33, 63, 64, 65, 95, 96, 97, 128, 160, 161} {
		around(new(big.Int).Lsh(big.NewInt(1), bits))
	}
	for _, digits := range []int64{1, 8, 9, 10, 18, 19, 27, 40} {
		around(new(big.Int).Exp(big.NewInt(10), big.NewInt(digits), nil))
	}
	return list
}

// samples returns the edges and n other numbers of up to 12 limbs.
func samples(n int) []*big.Int {
	list, s := edges(), source(1)
	for i := range n {
		list = append(list, s.number(1+i%12))
	}
	return list
}

// pairs calls f for pairs of numbers: all pairs of small numbers, of the edges, and others of up to 12 limbs.
func pairs(f func(x, y *big.Int)) {
	for x := int64(-20); x <= 20; x++ {
		for y := int64(-20); y <= 20; y++ {
			f(big.NewInt(x), big.NewInt(y))
		}
	}
	for _, x := range edges() {
		for _, y := range edges() {
			f(x, y)
		}
	}
	s := source(2)
	for i := range 4000 {
		f(s.number(1+i%12), s.number(1+i%7))
	}
}

// triples calls f for triples of small numbers, of a few edges, and of others of up to 8 limbs.
func triples(f func(a, b, c api.Int)) {
	small := []int64{-7, -2, -1, 0, 1, 3, 10}
	for _, x := range small {
		for _, y := range small {
			for _, z := range small {
				f(integer.Of(x), integer.Of(y), integer.Of(z))
			}
		}
	}
	s := source(3)
	list := edges()
	for range 3000 {
		pick := func() api.Int {
			if s.next()>>40%2 == 0 {
				return fromBig(list[int(s.next()>>33)%len(list)])
			}
			return fromBig(s.number(8))
		}
		f(pick(), pick(), pick())
	}
}
