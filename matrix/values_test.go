package matrix_test

import (
	"math/big"
	"math/rand/v2"
	"slices"
	"testing"

	"torsion/api"
)

// The tests compare with math/big, through conversions and constructions that use neither package integer nor package matrix.

// whole returns the valid integer n.
func whole(n *big.Int) api.Int {
	rest, low := new(big.Int).Abs(n), new(big.Int)
	var limbs []uint32
	for rest.Sign() > 0 {
		limbs = append(limbs, uint32(low.And(rest, big.NewInt(1<<32-1)).Uint64()))
		rest.Rsh(rest, 32)
	}
	return api.Int{Neg: n.Sign() < 0, Mag: limbs}
}

// number returns n.
func number(n int64) api.Int { return whole(big.NewInt(n)) }

// value returns a for math/big.
func value(a api.Int) *big.Int {
	n := new(big.Int)
	for _, limb := range slices.Backward(a.Mag) {
		n.Add(n.Lsh(n, 32), big.NewInt(int64(limb)))
	}
	if a.Neg {
		n.Neg(n)
	}
	return n
}

// made returns the matrix of this size with these elements.
func made(rows, cols int, element func(i, j int) *big.Int) api.Mat {
	a := api.Mat{Rows: rows, Cols: cols}
	for i := range rows {
		var row []api.Int
		for j := range cols {
			row = append(row, whole(element(i, j)))
		}
		a.A = append(a.A, row)
	}
	return a
}

// ints returns the matrix with this number of columns and these elements, row by row.
func ints(cols int, l ...int64) api.Mat {
	return made(len(l)/cols, cols, func(i, j int) *big.Int { return big.NewInt(l[i*cols+j]) })
}

// zeros returns the matrix of this size whose elements are 0.
func zeros(rows, cols int) api.Mat {
	return made(rows, cols, func(i, j int) *big.Int { return new(big.Int) })
}

// vec returns the row with these elements.
func vec(l ...int64) api.Vec {
	var v api.Vec
	for _, n := range l {
		v = append(v, number(n))
	}
	return v
}

// rowMatrix returns the matrix with the row v alone, and columnMatrix that with the column v.
func rowMatrix(v api.Vec) api.Mat {
	return made(1, len(v), func(_, j int) *big.Int { return value(v[j]) })
}

func columnMatrix(v api.Vec) api.Mat {
	return made(len(v), 1, func(i, _ int) *big.Int { return value(v[i]) })
}

// at returns an element for math/big.
func at(a api.Mat, i, j int) *big.Int { return value(a.A[i][j]) }

// sameInt reports whether a and b are the same limbs and signs.
func sameInt(a, b api.Int) bool { return a.Neg == b.Neg && slices.Equal(a.Mag, b.Mag) }

// sameVec reports whether a and b have the same limbs and signs.
func sameVec(a, b api.Vec) bool { return slices.EqualFunc(a, b, sameInt) }

// same reports whether a and b have the same sizes, the same numbers of elements, and the same limbs and signs.
func same(a, b api.Mat) bool {
	return a.Rows == b.Rows && a.Cols == b.Cols && slices.EqualFunc(a.A, b.A, func(x, y []api.Int) bool { return sameVec(x, y) })
}

// isZero reports whether a is the zero value, as it must be beside an error.
func isZero(a api.Mat) bool { return a.Rows == 0 && a.Cols == 0 && len(a.A) == 0 }

// source returns numbers without a pattern, the same ones in every run.
func source(seed uint64) *rand.Rand { return rand.New(rand.NewPCG(seed, 5)) }

// element returns 0, a small number, one around the limits of limbs, or one of up to 5 limbs.
func element(s *rand.Rand) *big.Int {
	n := new(big.Int)
	switch s.IntN(5) {
	case 0:
	case 1, 2:
		n.SetInt64(s.Int64N(21) - 10)
	case 3:
		n.Lsh(big.NewInt(1), uint(32*(1+s.IntN(3))))
		n.Add(n, big.NewInt(s.Int64N(3)-1))
	case 4:
		for range 1 + s.IntN(5) {
			n.Add(n.Lsh(n, 32), big.NewInt(int64(s.Uint32())))
		}
	}
	if s.IntN(2) == 0 {
		n.Neg(n)
	}
	return n
}

// random returns a matrix of this size.
func random(s *rand.Rand, rows, cols int) api.Mat {
	return made(rows, cols, func(i, j int) *big.Int { return element(s) })
}

// randomVec returns a row of this length.
func randomVec(s *rand.Rand, n int) api.Vec {
	var v api.Vec
	for range n {
		v = append(v, whole(element(s)))
	}
	return v
}

// scaled returns the matrix with the elements k times those of a.
func scaled(a api.Mat, k *big.Int) api.Mat {
	return made(a.Rows, a.Cols, func(i, j int) *big.Int { return new(big.Int).Mul(at(a, i, j), k) })
}

// multiplied returns the product by its definition.
func multiplied(a, b api.Mat) api.Mat {
	return made(a.Rows, b.Cols, func(i, j int) *big.Int {
		sum := new(big.Int)
		for k := range b.Rows {
			sum.Add(sum, new(big.Int).Mul(at(a, i, k), at(b, k, j)))
		}
		return sum
	})
}

// pairs calls f for all pairs of sides from 0 to 4, and for a few longer ones.
func pairs(f func(m, n int)) {
	for m := range 5 {
		for n := range 5 {
			f(m, n)
		}
	}
	for _, sides := range [][2]int{{1, 9}, {9, 1}, {7, 8}, {12, 5}, {0, 20}, {20, 0}} {
		f(sides[0], sides[1])
	}
}

// triples calls f for all triples of sides from 0 to 3, and for a few longer ones.
func triples(f func(l, m, n int)) {
	for l := range 4 {
		for m := range 4 {
			for n := range 4 {
				f(l, m, n)
			}
		}
	}
	for _, sides := range [][3]int{{1, 8, 1}, {6, 5, 7}, {9, 1, 9}, {5, 0, 6}} {
		f(sides[0], sides[1], sides[2])
	}
}

// quadruples calls f for all quadruples of sides from 0 to 2, and for a few longer ones.
func quadruples(f func(k, l, m, n int)) {
	for sides := range 81 {
		f(sides/27, sides/9%3, sides/3%3, sides%3)
	}
	f(3, 4, 5, 6)
	f(5, 1, 4, 1)
	f(4, 6, 1, 3)
}

// expect fails unless a function has returned the matrix want, and OK.
func expect(t *testing.T, what string, a api.Mat, err api.Errno, want api.Mat) {
	t.Helper()
	if err != api.OK || !same(a, want) {
		t.Errorf("%s: %+v, %v, not %+v", what, a, err, want)
	}
}

// must returns a function that passes on the matrix of a call, and that fails unless the call has succeeded.
func must(t *testing.T) func(a api.Mat, err api.Errno) api.Mat {
	return func(a api.Mat, err api.Errno) api.Mat {
		t.Helper()
		if err != api.OK {
			t.Errorf("%v", err)
		}
		return a
	}
}
