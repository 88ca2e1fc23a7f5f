package sparse_test

import (
	"math"
	"math/big"
	"slices"
	"testing"

	"torsion/api"
	"torsion/sparse"
)

// P6.4, and F4 of P6.1: rows that are inserted and removed.

// indices are numbers of which those from 0 to the number of rows of small matrices are places of rows.
var indices = []int{math.MinInt, -21, -2, -1, 0, 1, 2, 3, 4, 5, 6, 7, 8, 9, 11, 12, 13, 20, 21, math.MaxInt}

func TestInsert(t *testing.T) {
	s := source(40)
	pairs(func(m, n int) {
		for _, i := range indices {
			a, row := random(s, m, n), randomRow(s, n)
			longer, err := sparse.Insert(a.sparse(), i, sparseRow(row))
			if i < 0 || i > m {
				refused(t, "Insert", longer, err, api.ErrArg)
				continue
			}
			want := table{m + 1, n, slices.Insert(slices.Clone(a.element), i, row)}
			expect(t, "Insert", longer, err, want.sparse())
		}
	})
}

func TestRemove(t *testing.T) {
	s := source(41)
	pairs(func(m, n int) {
		for _, i := range indices {
			a := random(s, m, n)
			shorter, err := sparse.Remove(a.sparse(), i)
			if i < 0 || i >= m {
				refused(t, "Remove", shorter, err, api.ErrArg)
				continue
			}
			want := table{m - 1, n, slices.Delete(slices.Clone(a.element), i, i+1)}
			expect(t, "Remove", shorter, err, want.sparse())
		}
	})
}

func TestRemoveUndoesInsert(t *testing.T) {
	s, get := source(42), must(t)
	pairs(func(m, n int) {
		for i := range m + 1 {
			a, row := random(s, m, n).sparse(), sparseRow(randomRow(s, n))
			if back := get(sparse.Remove(get(sparse.Insert(a, i, row)), i)); !same(back, a) {
				t.Errorf("%d, %+v, %+v: %+v", i, row, a, back)
			}
		}
	})
}

func TestInsertUndoesRemove(t *testing.T) {
	s, get := source(43), must(t)
	pairs(func(m, n int) {
		for i := range m {
			a := random(s, m, n).sparse()
			if back := get(sparse.Insert(get(sparse.Remove(a, i)), i, a.L[i])); !same(back, a) {
				t.Errorf("%d, %+v: %+v", i, a, back)
			}
		}
	})
}

func TestInsertOfRowsThatAreTooLong(t *testing.T) {
	s := source(44)
	pairs(func(m, n int) {
		a := random(s, m, n).sparse()
		end := int64(n)
		for _, row := range [][]api.Term{terms(end, 1), terms(end+1, -1), terms(math.MaxInt64, 1), append(sparseRow(randomRow(s, n)), terms(end, 5)...)} {
			for _, i := range []int{0, m} {
				longer, err := sparse.Insert(a, i, row)
				refused(t, "Insert", longer, err, api.ErrShape)
			}
			// The index is checked first.
			for _, i := range []int{-1, m + 1} {
				longer, err := sparse.Insert(a, i, row)
				refused(t, "Insert", longer, err, api.ErrArg)
			}
		}
	})
}

// A matrix can be built of its rows, and be taken apart.
func TestAllRowsOneByOne(t *testing.T) {
	s, get := source(45), must(t)
	pairs(func(m, n int) {
		a := random(s, m, n).sparse()
		none := made(0, n, func(i, j int) *big.Int { return nil }).sparse()
		forward, backward := none, none
		for i, row := range a.L {
			forward = get(sparse.Insert(forward, i, row))
		}
		for _, row := range slices.Backward(a.L) {
			backward = get(sparse.Insert(backward, 0, row))
		}
		if !same(forward, a) || !same(backward, a) {
			t.Errorf("%+v: %+v, %+v", a, forward, backward)
		}
		for range m {
			forward = get(sparse.Remove(forward, 0))
		}
		if !same(forward, none) {
			t.Errorf("%+v: %+v", a, forward)
		}
	})
}
