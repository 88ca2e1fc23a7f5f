package matrix

import (
	"slices"

	"torsion/api"
)

// size is a number of rows and a number of columns.
type size [2]int

// sizes returns the sizes that the matrices say they have.
func sizes(list []api.Mat) []size {
	return each(list, func(a api.Mat) size { return size{a.Rows, a.Cols} })
}

// fit reports whether the matrices have these sizes. A matrix that is not whole fits nowhere: its rows cannot be gone through by its size.
func fit(list []api.Mat, want ...size) bool {
	return slices.Equal(sizes(list), want) && all(list, whole)
}

// whole reports whether a has as many rows, and each of them as many elements, as a says.
func whole(a api.Mat) bool {
	return a.Cols >= 0 && len(a.A) == a.Rows && all(a.A, func(row []api.Int) bool { return len(row) == a.Cols })
}

// oneRow returns the matrix with the row v alone.
func oneRow(v api.Vec) api.Mat {
	return api.Mat{Rows: 1, Cols: len(v), A: [][]api.Int{v}}
}
