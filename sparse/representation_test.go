package sparse_test

import (
	"math/big"
	"testing"

	"torsion/api"
	"torsion/matrix"
	"torsion/sparse"
)

// P6.2: From and To are inverse, and matrices that are equal have the same representation.

// small calls f for all tables with up to 2 rows and columns whose elements are -1, 0 or 2.
func small(f func(a table)) {
	for rows := range 3 {
		for cols := range 3 {
			count := 1
			for range rows * cols {
				count *= 3
			}
			for code := range count {
				rest := code
				f(made(rows, cols, func(i, j int) *big.Int {
					digit := rest % 3
					rest /= 3
					return big.NewInt([]int64{-1, 0, 2}[digit])
				}))
			}
		}
	}
}

func TestFromAndToAreInverse(t *testing.T) {
	check := func(a table) {
		s, m := a.sparse(), a.mat()
		if !same(sparse.From(sparse.To(s)), s) || !sameMat(sparse.To(sparse.From(m)), m) {
			t.Errorf("%+v", m)
		}
	}
	small(check)
	s := source(20)
	pairs(func(m, n int) { check(random(s, m, n)) })
}

func TestEqualMatricesHaveOneRepresentation(t *testing.T) {
	small(func(a table) {
		small(func(b table) {
			x, y := a.sparse(), b.sparse()
			equal := matrix.Equal(a.mat(), b.mat())
			if sparse.Equal(x, y) != equal || same(sparse.From(a.mat()), sparse.From(b.mat())) != equal || matrix.Equal(sparse.To(x), sparse.To(y)) != equal {
				t.Errorf("%+v, %+v", x, y)
			}
		})
	})
}

// Rows, lists of rows and limbs that are nil do not differ from empty ones.
func TestNilAndEmpty(t *testing.T) {
	for _, p := range [][2]api.Sparse{
		{{}, {L: [][]api.Term{}}},
		{{Rows: 1, Cols: 1, L: [][]api.Term{nil}}, {Rows: 1, Cols: 1, L: [][]api.Term{{}}}},
	} {
		if !sparse.Equal(p[0], p[1]) || !sparse.Equal(p[1], p[0]) || !same(sparse.Transpose(p[0]), sparse.Transpose(p[1])) {
			t.Errorf("%+v", p)
		}
	}
	zero := api.Int{Mag: []uint32{}}
	if s := sparse.From(api.Mat{Rows: 1, Cols: 2, A: [][]api.Int{{zero, zero}}}); sparse.Nonzero(s) != 0 || !sparse.Valid(s) {
		t.Errorf("From: %+v", s)
	}
	if row := sparse.Merge(terms(1, 2), terms(1, 2), zero); !sameRow(row, terms(1, 2)) {
		t.Errorf("Merge: %+v", row)
	}
	v, err := sparse.Times(api.Vec{zero}, ints(1, 7).sparse())
	if err != api.OK || !sameVec(v, api.Vec{{}}) {
		t.Errorf("Times: %+v, %v", v, err)
	}
}
