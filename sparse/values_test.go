package sparse_test

import (
	"math/big"
	"math/rand/v2"
	"slices"
	"testing"

	"torsion/api"
)

// The tests compare with math/big and with matrices that store all elements, through conversions that use no package of the program.

// whole returns the valid integer n.
func whole(n *big.Int) api.Int {
	rest, low := new(big.Int).Abs(n), new(big.Int)
	var limbs []uint32
	for rest.Sign() > 0 {
		limbs = append(limbs, uint32(low.And(rest, big.NewInt(1<<32-1)).Uint64()))
		rest.Rsh(rest, 32)
	}
	return api.Int{Neg: n.Sign() < 0, Mag: limbs}
}

// number returns n.
func number(n int64) api.Int { return whole(big.NewInt(n)) }

// value returns a for math/big.
func value(a api.Int) *big.Int {
	n := new(big.Int)
	for _, limb := range slices.Backward(a.Mag) {
		n.Add(n.Lsh(n, 32), big.NewInt(int64(limb)))
	}
	if a.Neg {
		n.Neg(n)
	}
	return n
}

// table is a matrix of which all elements are stored; with rows and columns, for those may be 0.
type table struct {
	rows, cols int
	element    [][]*big.Int
}

// made returns the table of this size with these elements.
func made(rows, cols int, element func(i, j int) *big.Int) table {
	a := table{rows: rows, cols: cols}
	for i := range rows {
		var row []*big.Int
		for j := range cols {
			row = append(row, element(i, j))
		}
		a.element = append(a.element, row)
	}
	return a
}

// ints returns the table with this number of columns and these elements, row by row.
func ints(cols int, l ...int64) table {
	return made(len(l)/cols, cols, func(i, j int) *big.Int { return big.NewInt(l[i*cols+j]) })
}

// mat returns the matrix with these elements.
func (a table) mat() api.Mat {
	m := api.Mat{Rows: a.rows, Cols: a.cols}
	for _, row := range a.element {
		m.A = append(m.A, vec(row))
	}
	return m
}

// vec returns the row with these elements.
func vec(row []*big.Int) api.Vec {
	var v api.Vec
	for _, n := range row {
		v = append(v, whole(n))
	}
	return v
}

// sparse returns the sparse matrix with these elements.
func (a table) sparse() api.Sparse {
	s := api.Sparse{Rows: a.rows, Cols: a.cols}
	for _, row := range a.element {
		s.L = append(s.L, sparseRow(row))
	}
	return s
}

// sparseRow returns the sparse row with these elements.
func sparseRow(row []*big.Int) []api.Term {
	var terms []api.Term
	for j, n := range row {
		if n.Sign() != 0 {
			terms = append(terms, api.Term{Col: j, V: whole(n)})
		}
	}
	return terms
}

// terms returns the sparse row with these columns and elements, in turn.
func terms(l ...int64) []api.Term {
	var row []api.Term
	for i := 0; i < len(l); i += 2 {
		row = append(row, api.Term{Col: int(l[i]), V: number(l[i+1])})
	}
	return row
}

// times returns the product by its definition.
func (a table) times(b table) table {
	return made(a.rows, b.cols, func(i, j int) *big.Int {
		sum := new(big.Int)
		for k := range b.rows {
			sum.Add(sum, new(big.Int).Mul(a.element[i][k], b.element[k][j]))
		}
		return sum
	})
}

// turned returns the transposed table.
func (a table) turned() table {
	return made(a.cols, a.rows, func(i, j int) *big.Int { return a.element[j][i] })
}

// sameInt reports whether a and b are the same limbs and signs.
func sameInt(a, b api.Int) bool { return a.Neg == b.Neg && slices.Equal(a.Mag, b.Mag) }

// sameVec, sameRow, sameMat and same report the same of rows and matrices, and whether the sizes are the same.
func sameVec(a, b []api.Int) bool { return slices.EqualFunc(a, b, sameInt) }

func sameRow(a, b []api.Term) bool {
	return slices.EqualFunc(a, b, func(x, y api.Term) bool { return x.Col == y.Col && sameInt(x.V, y.V) })
}

func sameMat(a, b api.Mat) bool {
	return a.Rows == b.Rows && a.Cols == b.Cols && slices.EqualFunc(a.A, b.A, sameVec)
}

func same(a, b api.Sparse) bool {
	return a.Rows == b.Rows && a.Cols == b.Cols && slices.EqualFunc(a.L, b.L, sameRow)
}

// isZero reports whether s is the zero value, as it must be beside an error.
func isZero(s api.Sparse) bool { return s.Rows == 0 && s.Cols == 0 && len(s.L) == 0 }

// source returns numbers without a pattern, the same ones in every run.
func source(seed uint64) *rand.Rand { return rand.New(rand.NewPCG(seed, 6)) }

// element returns a small number, one around the limits of limbs, or one of up to 5 limbs.
func element(s *rand.Rand) *big.Int {
	n := new(big.Int)
	switch s.IntN(4) {
	case 0, 1:
		n.SetInt64(s.Int64N(7) - 3)
	case 2:
		n.Lsh(big.NewInt(1), uint(32*(1+s.IntN(3))))
		n.Add(n, big.NewInt(s.Int64N(3)-1))
	case 3:
		for range 1 + s.IntN(5) {
			n.Add(n.Lsh(n, 32), big.NewInt(int64(s.Uint32())))
		}
	}
	if s.IntN(2) == 0 {
		n.Neg(n)
	}
	return n
}

// random returns a table of this size in which one of 1 to 4 elements is not 0, or which is full of small numbers, so that sums vanish.
func random(s *rand.Rand, rows, cols int) table {
	gap := s.IntN(5)
	return made(rows, cols, func(i, j int) *big.Int {
		switch {
		case gap == 0:
			return big.NewInt(s.Int64N(3) - 1)
		case s.IntN(gap) > 0:
			return new(big.Int)
		}
		return element(s)
	})
}

// randomRow returns a list of n numbers, as a row of random.
func randomRow(s *rand.Rand, n int) []*big.Int { return random(s, 1, n).element[0] }

// oneRow returns the table with this row alone.
func oneRow(row []*big.Int) table {
	return made(1, len(row), func(_, j int) *big.Int { return row[j] })
}

// pairs calls f for all pairs of sides from 0 to 4, and for a few longer ones.
func pairs(f func(m, n int)) {
	for m := range 5 {
		for n := range 5 {
			f(m, n)
		}
	}
	for _, sides := range [][2]int{{1, 9}, {9, 1}, {7, 8}, {12, 5}, {0, 20}, {20, 0}} {
		f(sides[0], sides[1])
	}
}

// triples calls f for all triples of sides from 0 to 3, and for a few longer ones.
func triples(f func(l, m, n int)) {
	for sides := range 64 {
		f(sides/16, sides/4%4, sides%4)
	}
	for _, sides := range [][3]int{{1, 8, 1}, {6, 5, 7}, {9, 1, 9}, {5, 0, 6}} {
		f(sides[0], sides[1], sides[2])
	}
}

// expect fails unless a function has returned the sparse matrix want, and OK.
func expect(t *testing.T, what string, s api.Sparse, err api.Errno, want api.Sparse) {
	t.Helper()
	if err != api.OK || !same(s, want) {
		t.Errorf("%s: %+v, %v, not %+v", what, s, err, want)
	}
}

// refused fails unless a function has returned this error and the zero value.
func refused(t *testing.T, what string, s api.Sparse, err, want api.Errno) {
	t.Helper()
	if err != want || !isZero(s) {
		t.Errorf("%s: %+v, %v, not %v", what, s, err, want)
	}
}

// must returns a function that passes on the result of a call, and that fails unless the call has succeeded.
func must(t *testing.T) func(s api.Sparse, err api.Errno) api.Sparse {
	return func(s api.Sparse, err api.Errno) api.Sparse {
		t.Helper()
		if err != api.OK {
			t.Errorf("%v", err)
		}
		return s
	}
}
