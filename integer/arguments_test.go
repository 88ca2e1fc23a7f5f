package integer_test

import (
	"math/big"
	"slices"
	"strings"
	"testing"

	"torsion/api"
	"torsion/integer"
)

// A9, and P1 and P2 of DOC.md: no function panics or runs forever, arguments are not modified, and results depend on nothing else.

// results returns what all functions with integers as arguments return for a and b, as integers and as text.
func results(a, b api.Int) ([]api.Int, string) {
	q, r, err := integer.DivMod(a, b)
	g, s, t := integer.Ext(a, b)
	p, powErr := integer.Pow(a, 5)
	root, rootErr := integer.Root(a)
	small, ok := integer.Small(a)
	list := []api.Int{integer.Abs(a), integer.Neg(a), integer.Add(a, b), integer.Sub(a, b), integer.Mul(a, b), q, r, integer.Gcd(a, b), g, s, t, p, root, integer.Of(small)}
	text := strings.Join([]string{err.Error(), powErr.Error(), rootErr.Error(), integer.Text(a), integer.Text(b)}, ", ")
	if ok {
		text += ", small"
	}
	for _, n := range []int{integer.Cmp(a, b), integer.Sign(a), integer.Bits(a)} {
		text += ", " + big.NewInt(int64(n)).String()
	}
	return list, text
}

// roomy returns a with limbs behind its last one, which no function may look at or write to.
func roomy(a api.Int) (api.Int, []uint32) {
	behind := []uint32{77, 78, 79}
	limbs := append(slices.Clone(a.Mag), behind...)
	return api.Int{Neg: a.Neg, Mag: limbs[:len(a.Mag)]}, limbs
}

func TestArgumentsAreNotModified(t *testing.T) {
	pairs(func(x, y *big.Int) {
		a, roomA := roomy(fromBig(x))
		b, roomB := roomy(fromBig(y))
		beforeA, beforeB := slices.Clone(roomA), slices.Clone(roomB)
		results(a, b)
		if !slices.Equal(roomA, beforeA) || !slices.Equal(roomB, beforeB) {
			t.Errorf("%v, %v: arguments modified", x, y)
		}
	})
}

func TestResultsDependOnArgumentsOnly(t *testing.T) {
	pairs(func(x, y *big.Int) {
		first, firstText := results(fromBig(x), fromBig(y))
		a, _ := roomy(fromBig(x))
		b, _ := roomy(fromBig(y))
		second, secondText := results(a, b)
		if !slices.EqualFunc(first, second, same) || firstText != secondText {
			t.Errorf("%v, %v: other results at the second call", x, y)
		}
	})
}

func TestResultsAreNewMemory(t *testing.T) {
	pairs(func(x, y *big.Int) {
		a, roomA := roomy(fromBig(x))
		b, roomB := roomy(fromBig(y))
		list, _ := results(a, b)
		want, _ := results(fromBig(x), fromBig(y))
		clear(roomA)
		clear(roomB)
		for i := range list {
			if !same(list[i], want[i]) {
				t.Errorf("%v, %v: result %d shares memory with an argument", x, y, i)
			}
			for k := range list[i].Mag {
				list[i].Mag[k] = 0 // another result that shares this memory will differ
			}
		}
	})
}

func TestResultsAreValid(t *testing.T) {
	pairs(func(x, y *big.Int) {
		list, _ := results(fromBig(x), fromBig(y))
		for i, a := range list {
			if a.Neg && len(a.Mag) == 0 || len(a.Mag) > 0 && a.Mag[len(a.Mag)-1] == 0 || !integer.Valid(a) {
				t.Errorf("%v, %v: result %d is %+v", x, y, i, a)
			}
		}
	})
}

// For arguments that are not valid the document specifies nothing, but the functions return, and the package says how such arguments are read.
func TestInvalidArgumentsDoNoHarm(t *testing.T) {
	var list []api.Int
	for _, limbs := range [][]uint32{nil, {}, {0}, {1}, {0, 0}, {5, 0}, {0, 5, 0}, {1, 2, 3}, {7, 0, 0}, {1, 2, 3, 0, 0}, {0, 0, 0, 0, 0, 0}, {1, 1, 1, 1, 1, 0}} {
		list = append(list, api.Int{Mag: limbs}, api.Int{Neg: true, Mag: limbs})
	}
	for _, a := range list {
		for _, b := range list {
			got, gotText := results(a, b)
			want, wantText := results(fromBig(toBig(a)), fromBig(toBig(b)))
			if !slices.EqualFunc(got, want, same) || gotText != wantText {
				t.Errorf("%+v, %+v: not the results for the valid integers", a, b)
			}
		}
		for _, n := range []int{-1, 0, 1, 256, 257} {
			if p, _ := integer.Pow(a, n); !integer.Valid(p) {
				t.Errorf("Pow(%+v, %d) is not valid", a, n)
			}
		}
	}
}
