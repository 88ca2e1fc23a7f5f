package rational

import (
	"torsion/api"
	"torsion/integer"
)

// fraction is a quotient that need not be in lowest terms, and whose denominator may be negative, or 0 after a division by 0. Its methods put off the search for common divisors, so that there is only one for each result.
type fraction api.Rat

// plus returns x + y.
func (x fraction) plus(y fraction) fraction {
	return fraction{
		Num: integer.Add(integer.Mul(x.Num, y.Den), integer.Mul(y.Num, x.Den)),
		Den: integer.Mul(x.Den, y.Den),
	}
}

// minus returns x - y.
func (x fraction) minus(y fraction) fraction {
	return x.plus(fraction{Num: integer.Neg(y.Num), Den: y.Den})
}

// times returns x y.
func (x fraction) times(y fraction) fraction {
	return fraction{Num: integer.Mul(x.Num, y.Num), Den: integer.Mul(x.Den, y.Den)}
}

// over returns x/y; its denominator is 0 if y is 0.
func (x fraction) over(y fraction) fraction {
	return x.times(fraction{Num: y.Den, Den: y.Num})
}

// floor returns the greatest integer that is at most x; the denominator of x is positive.
func (x fraction) floor() api.Int {
	quotient, _, _ := integer.DivMod(x.Num, x.Den)
	return quotient
}

// operation is a method of fractions that is bound to its first operand, and the second operand.
type operation struct {
	method func(fraction) fraction
	second api.Rat
}

// result performs o and brings the fraction to lowest terms; it returns ErrZero if its denominator is 0.
func (o operation) result() (api.Rat, api.Errno) {
	x := o.method(fraction(o.second))
	return Of(x.Num, x.Den)
}
