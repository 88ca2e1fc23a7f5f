package matrix

import (
	"slices"

	"torsion/api"
)

// Transpose returns the matrix whose rows are the columns of a.
func Transpose(a api.Mat) api.Mat {
	if !whole(a) {
		return api.Mat{}
	}
	rows := make([][]api.Int, a.Cols)
	for j := range rows {
		rows[j] = each(a.A, func(row []api.Int) api.Int { return copied(row[j]) })
	}
	return api.Mat{Rows: a.Cols, Cols: a.Rows, A: rows}
}

// Stack returns the rows of a followed by those of b, and ErrShape if the numbers of columns differ.
func Stack(a, b api.Mat) (api.Mat, api.Errno) {
	if !fit([]api.Mat{a, b}, size{a.Rows, a.Cols}, size{b.Rows, a.Cols}) {
		return api.Mat{}, api.ErrShape
	}
	rows := each(slices.Concat(a.A, b.A), copiedRow)
	return api.Mat{Rows: len(rows), Cols: a.Cols, A: rows}, api.OK
}

// Beside returns the columns of a followed by those of b, and ErrShape if the numbers of rows differ.
func Beside(a, b api.Mat) (api.Mat, api.Errno) {
	if !fit([]api.Mat{a, b}, size{a.Rows, a.Cols}, size{a.Rows, b.Cols}) {
		return api.Mat{}, api.ErrShape
	}
	rows := combine(a.A, b.A, func(x, y []api.Int) []api.Int { return copiedRow(slices.Concat(x, y)) })
	return api.Mat{Rows: a.Rows, Cols: a.Cols + b.Cols, A: rows}, api.OK
}

// Pick returns the matrix whose element with the indices i and j is that of a with the indices rows[i] and cols[j], and ErrArg if one of the indices is not in a.
func Pick(a api.Mat, rows, cols []int) (api.Mat, api.Errno) {
	if !whole(a) || !all(rows, indexOf(a.Rows)) || !all(cols, indexOf(a.Cols)) {
		return api.Mat{}, api.ErrArg
	}
	picked := each(rows, func(i int) []api.Int {
		return each(cols, func(j int) api.Int { return copied(a.A[i][j]) })
	})
	return api.Mat{Rows: len(rows), Cols: len(cols), A: picked}, api.OK
}

// indexOf returns a function that reports whether a number is an index of a list of n elements.
func indexOf(n int) func(i int) bool {
	return func(i int) bool { return i >= 0 && i < n }
}

// copiedRow returns the row in memory of its own.
func copiedRow(row []api.Int) []api.Int { return each(row, copied) }

// copied returns x in memory of its own.
func copied(x api.Int) api.Int {
	return api.Int{Neg: x.Neg, Mag: slices.Clone(x.Mag)}
}
