package sparse

import (
	"maps"
	"slices"

	"torsion/api"
	"torsion/integer"
)

// Transpose returns the matrix whose rows are the columns of s.
func Transpose(s api.Sparse) api.Sparse {
	if !Valid(s) {
		return api.Sparse{}
	}
	out := api.Sparse{Rows: s.Cols, Cols: s.Rows, L: make([][]api.Term, s.Cols)}
	for i, row := range s.L {
		for _, t := range row {
			out.L[t.Col] = append(out.L[t.Col], api.Term{Col: i, V: copied(t.V)})
		}
	}
	return out
}

// Mul returns the product a b, and ErrShape if a has another number of columns than b has rows.
func Mul(a, b api.Sparse) (api.Sparse, api.Errno) {
	if a.Cols != b.Rows || !Valid(a) || !Valid(b) {
		return api.Sparse{}, api.ErrShape
	}
	out := api.Sparse{Rows: a.Rows, Cols: b.Cols, L: make([][]api.Term, a.Rows)}
	for i, row := range a.L {
		out.L[i] = combination(row, b)
	}
	return out, api.OK
}

// Times returns v s, and ErrShape if v has another number of elements than s has rows.
func Times(v api.Vec, s api.Sparse) (api.Vec, api.Errno) {
	if len(v) != s.Rows || !Valid(s) {
		return nil, api.ErrShape
	}
	out := make(api.Vec, s.Cols)
	place(out, combination(sparseRow(v), s))
	return out, api.OK
}

// combination returns the combination of the rows of s with these coefficients, whose columns are the indices of the rows.
func combination(coefficients []api.Term, s api.Sparse) []api.Term {
	// A map and not a row of sums: the product may have many more columns than elements.
	sums := map[int]api.Int{}
	for _, k := range coefficients {
		for _, t := range s.L[k.Col] {
			sums[t.Col] = integer.Add(sums[t.Col], integer.Mul(k.V, t.V))
		}
	}
	var row []api.Term
	for _, col := range slices.Sorted(maps.Keys(sums)) {
		row = extended(row, col, sums[col])
	}
	return row
}
