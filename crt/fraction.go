package crt

import (
	"torsion/api"
	"torsion/integer"
	"torsion/rational"
)

// Rational returns the rational number n/d with n = a d modulo m, where d is coprime to m, and |n| and d are at most the square root of (m - 1)/2. It returns ErrArg if m < 2, and ErrBound if there is no such number.
func Rational(a, m api.Int) (api.Rat, api.Errno) {
	if integer.Cmp(m, integer.Of(2)) < 0 {
		return api.Rat{}, api.ErrArg
	}
	half, _, _ := integer.DivMod(integer.Sub(m, integer.Of(1)), integer.Of(2))
	bound, _ := integer.Root(half)
	l, ok := firstWithin(bound, a, m)
	if !ok {
		return api.Rat{}, api.ErrBound
	}
	q, _ := rational.Of(l.rest, l.factor)
	// If the fraction was not in lowest terms, the factor is not coprime to m: what divides it and the remainder divides m, and what divides it and m divides the remainder.
	if integer.Cmp(q.Den, integer.Abs(l.factor)) != 0 {
		return api.Rat{}, api.ErrBound
	}
	return q, api.OK
}

// line is a line of Euclid's algorithm for m and a: a remainder, which is the product of factor and a modulo m.
type line struct{ rest, factor api.Int }

// fit tells of a line whether its remainder, and whether the absolute value of its factor, is at most a bound.
type fit struct{ rest, factor bool }

// within compares the line with a bound.
func (l line) within(bound api.Int) fit {
	return fit{
		rest:   integer.Cmp(l.rest, bound) <= 0,
		factor: integer.Cmp(integer.Abs(l.factor), bound) <= 0,
	}
}

// firstWithin returns the first line of Euclid's algorithm for m and a whose remainder is at most bound, and true, if its factor is so, too. If 2 bound^2 < m, there are no other n and d within the bound with n = a d modulo m than multiples of this line, and none if it returns false.
func firstWithin(bound, a, m api.Int) (line, bool) {
	_, a, _ = integer.DivMod(a, m)
	last, l := line{rest: m}, line{rest: a, factor: integer.Of(1)}
	// The remainders decrease, while the absolute values of the factors never do.
	for l.within(bound) == (fit{rest: false, factor: true}) {
		last, l = l, last.reduced(l)
	}
	return l, l.within(bound) == fit{rest: true, factor: true}
}

// reduced returns the line whose remainder is that of l's remainder by the remainder of next, which is not 0.
func (l line) reduced(next line) line {
	quotient, rest, _ := integer.DivMod(l.rest, next.rest)
	return line{rest: rest, factor: integer.Sub(l.factor, integer.Mul(quotient, next.factor))}
}
