package integer

import (
	"slices"

	"torsion/api"
)

// Gcd returns the greatest common divisor of a and b, and 0 if both are 0.
func Gcd(a, b api.Int) api.Int {
	x, y := trim(a.Mag), trim(b.Mag)
	for len(y) > 0 {
		if p, q, ok := words(x, y); ok {
			return build(false, ofWord(gcdOfWords(p, q)))
		}
		_, rest := divide(x, y)
		x, y = y, trim(rest)
	}
	return build(false, slices.Clone(x))
}

// gcdOfWords returns the greatest common divisor of a and b.
func gcdOfWords(a, b uint64) uint64 {
	for b != 0 {
		a, b = b, a%b
	}
	return a
}

// Ext returns g = Gcd(a, b), and integers s and t with s a + t b = g that are as small as doc/01-integer.md says.
func Ext(a, b api.Int) (api.Int, api.Int, api.Int) {
	a, b = tidy(a), tidy(b)
	if len(a.Mag) == 0 && len(b.Mag) == 0 {
		return api.Int{}, api.Int{}, api.Int{}
	}
	var g, s, t api.Int
	if x, y, ok := words(a.Mag, b.Mag); ok {
		g, s, t = extOfWords(x, y)
	} else {
		g, s, t = extOfSizes(Abs(a), Abs(b))
	}
	return g, withSign(s, a.Neg), withSign(t, b.Neg)
}

// extOfSizes does what Ext does for integers that are not negative and not both 0.
func extOfSizes(a, b api.Int) (api.Int, api.Int, api.Int) {
	g, next := a, b
	s, nextS := Of(1), Of(0)
	for Sign(next) != 0 {
		quotient, rest, _ := DivMod(g, next)
		g, next = next, rest
		s, nextS = nextS, Sub(s, Mul(quotient, nextS))
	}
	if Sign(b) == 0 {
		return g, s, api.Int{}
	}
	t, _, _ := DivMod(Sub(g, Mul(s, a)), b) // without remainder, and cheaper than a second row of coefficients
	return g, s, t
}

// extOfWords does what Ext does for words that are not both 0.
func extOfWords(a, b uint64) (api.Int, api.Int, api.Int) {
	g, next := a, b
	s, nextS := int64(1), int64(0)
	t, nextT := int64(0), int64(1)
	for next != 0 {
		quotient := g / next
		g, next = next, g%next
		// The coefficients of the remainder 0 may wrap around, but they are not used; the others are less than 2^63.
		s, nextS = nextS, s-int64(quotient)*nextS
		t, nextT = nextT, t-int64(quotient)*nextT
	}
	return build(false, ofWord(g)), Of(s), Of(t)
}

// withSign returns -a if neg, and a otherwise.
func withSign(a api.Int, neg bool) api.Int {
	return build(a.Neg != neg, a.Mag)
}
