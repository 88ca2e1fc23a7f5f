package sparse

import (
	"iter"
	"math"

	"torsion/api"
	"torsion/integer"
)

// Merge returns the sparse row a + k b.
func Merge(a, b []api.Term, k api.Int) []api.Term {
	var sum []api.Term
	for col, x := range columns(a, b) {
		sum = extended(sum, col, integer.Add(x[0], integer.Mul(k, x[1])))
	}
	return sum
}

// equalRows reports whether a and b have the same elements.
func equalRows(a, b []api.Term) bool {
	for _, x := range columns(a, b) {
		if integer.Cmp(x[0], x[1]) != 0 {
			return false
		}
	}
	return true
}

// columns yields the columns in which a or b has an element, in increasing order, and the elements of both in that column.
func columns(a, b []api.Term) iter.Seq2[int, [2]api.Int] {
	return func(yield func(int, [2]api.Int) bool) {
		restA, restB := a, b
		for len(restA) > 0 || len(restB) > 0 {
			col := min(first(restA), first(restB))
			var x [2]api.Int
			x[0], restA = split(restA, col)
			x[1], restB = split(restB, col)
			if !yield(col, x) {
				return
			}
		}
	}
}

// first returns the first column of the row, and the greatest number if the row is empty. That number may be a column as well: split tells the two cases apart.
func first(row []api.Term) int {
	if len(row) == 0 {
		return math.MaxInt
	}
	return row[0].Col
}

// split returns the element of the row in this column, in front of which the row has none, and the elements behind it.
func split(row []api.Term, col int) (api.Int, []api.Term) {
	if len(row) == 0 || row[0].Col != col {
		return api.Int{}, row
	}
	return row[0].V, row[1:]
}

// extended returns the row with the element x in this column behind it; a sparse row does not store a 0.
func extended(row []api.Term, col int, x api.Int) []api.Term {
	if integer.Sign(x) == 0 {
		return row
	}
	return append(row, api.Term{Col: col, V: x})
}

// sparseRow returns the sparse row with the elements of v.
func sparseRow(v []api.Int) []api.Term {
	var row []api.Term
	for col, x := range v {
		row = extended(row, col, copied(x))
	}
	return row
}

// place sets the elements of v in the columns of the row to those of the row.
func place(v []api.Int, row []api.Term) {
	for _, t := range row {
		v[t.Col] = copied(t.V)
	}
}

// fits reports whether the row is a sparse row whose columns are less than cols.
func fits(row []api.Term, cols int) bool {
	before := -1
	for _, t := range row {
		if t.Col <= before || t.Col >= cols || !integer.Valid(t.V) || integer.Sign(t.V) == 0 {
			return false
		}
		before = t.Col
	}
	return true
}
