package rational_test

import (
	"math/big"
	"slices"
	"testing"

	"torsion/api"
	"torsion/rational"
)

// P1 and P2 of DOC.md: no function panics or runs forever, arguments are not modified, and results depend on nothing else.

// attempt is a result that an error may replace.
type attempt struct {
	r   api.Rat
	err api.Errno
}

// outcome has what all functions return for two arguments.
type outcome struct {
	rats     []api.Rat
	attempts []attempt
	ints     []api.Int
	signs    []int
	facts    []bool
	texts    []string
}

func results(a, b api.Rat) outcome {
	extended, errOfOf := rational.Of(b.Den, a.Den)
	quotient, errOfDiv := rational.Div(a, b)
	return outcome{
		rats:     []api.Rat{rational.Whole(a.Num), rational.Neg(a), rational.Add(a, b), rational.Sub(a, b), rational.Mul(a, b)},
		attempts: []attempt{{extended, errOfOf}, {quotient, errOfDiv}},
		ints:     []api.Int{rational.Floor(a), rational.Round(a)},
		signs:    []int{rational.Cmp(a, b), rational.Sign(a)},
		facts:    []bool{rational.Valid(a), rational.Integral(a)},
		texts:    []string{rational.Text(a), rational.Text(b)},
	}
}

// numbers returns all rational numbers of an outcome, with the zero values beside errors.
func (x outcome) numbers() []api.Rat {
	list := slices.Clone(x.rats)
	for _, a := range x.attempts {
		list = append(list, a.r)
	}
	return list
}

func sameAttempt(a, b attempt) bool { return a.err == b.err && same(a.r, b.r) }

// equal reports whether both outcomes are the same.
func equal(x, y outcome) bool {
	return slices.EqualFunc(x.rats, y.rats, same) && slices.EqualFunc(x.attempts, y.attempts, sameAttempt) && slices.EqualFunc(x.ints, y.ints, sameInt) && slices.Equal(x.signs, y.signs) && slices.Equal(x.facts, y.facts) && slices.Equal(x.texts, y.texts)
}

// roomy returns a with limbs behind its last ones, which no function may look at or write to, and the memory of both lists of limbs.
func roomy(a api.Rat) (api.Rat, [2][]uint32) {
	num, den := append(slices.Clone(a.Num.Mag), 77, 78), append(slices.Clone(a.Den.Mag), 79, 80)
	a.Num.Mag, a.Den.Mag = num[:len(a.Num.Mag)], den[:len(a.Den.Mag)]
	return a, [2][]uint32{num, den}
}

func TestArgumentsAreNotModified(t *testing.T) {
	pairs(func(x, y *big.Rat) {
		a, roomA := roomy(rat(x))
		b, roomB := roomy(rat(y))
		before := slices.Concat(roomA[0], roomA[1], roomB[0], roomB[1])
		results(a, b)
		if !slices.Equal(before, slices.Concat(roomA[0], roomA[1], roomB[0], roomB[1])) {
			t.Errorf("%v, %v: arguments modified", x, y)
		}
	})
}

func TestResultsDependOnArgumentsOnly(t *testing.T) {
	pairs(func(x, y *big.Rat) {
		a, _ := roomy(rat(x))
		b, _ := roomy(rat(y))
		if !equal(results(rat(x), rat(y)), results(a, b)) {
			t.Errorf("%v, %v: other results at the second call", x, y)
		}
	})
}

func TestResultsAreNewMemory(t *testing.T) {
	pairs(func(x, y *big.Rat) {
		a, roomA := roomy(rat(x))
		b, roomB := roomy(rat(y))
		list, want := results(a, b), results(rat(x), rat(y))
		for _, limbs := range slices.Concat(roomA[:], roomB[:]) {
			clear(limbs)
		}
		if !equal(list, want) {
			t.Errorf("%v, %v: a result shares memory with an argument", x, y)
		}
		for i, r := range list.numbers() {
			num := r.Num.Mag
			for k := range num {
				num[k]++
			}
			if !sameInt(r.Den, want.numbers()[i].Den) {
				t.Errorf("%v, %v: numerator and denominator of result %d share memory", x, y, i)
			}
		}
	})
}

// For arguments that are not valid the document specifies nothing but Valid, but the functions return.
func TestInvalidArgumentsDoNoHarm(t *testing.T) {
	var parts []api.Int
	for _, limbs := range [][]uint32{nil, {0}, {1}, {6, 0}, {0, 5, 0}, {1, 2, 3}, {1, 2, 3, 0, 0}} {
		parts = append(parts, api.Int{Mag: limbs}, api.Int{Neg: true, Mag: limbs})
	}
	var list []api.Rat
	for _, num := range parts {
		for _, den := range parts {
			list = append(list, api.Rat{Num: num, Den: den})
		}
	}
	for _, a := range list {
		for _, b := range list {
			first := results(a, b)
			if !equal(first, results(a, b)) {
				t.Errorf("%+v, %+v: other results at the second call", a, b)
			}
			for _, x := range first.attempts {
				if x.err != api.OK && (x.err != api.ErrZero || !isZeroValue(x.r)) {
					t.Errorf("%+v, %+v: %+v beside the error %v", a, b, x.r, x.err)
				}
			}
		}
	}
}
