package matrix

import (
	"torsion/api"
	"torsion/integer"
)

// Add returns a + b, and ErrShape if the sizes differ.
func Add(a, b api.Mat) (api.Mat, api.Errno) {
	return elementwise(a, b, integer.Add)
}

// Sub returns a - b, and ErrShape if the sizes differ.
func Sub(a, b api.Mat) (api.Mat, api.Errno) {
	return elementwise(a, b, integer.Sub)
}

// elementwise returns the results of f for corresponding elements of a and b, and ErrShape if the sizes differ.
func elementwise(a, b api.Mat, f func(x, y api.Int) api.Int) (api.Mat, api.Errno) {
	if !fit([]api.Mat{a, b}, size{a.Rows, a.Cols}, size{a.Rows, a.Cols}) {
		return api.Mat{}, api.ErrShape
	}
	rows := combine(a.A, b.A, func(x, y []api.Int) []api.Int { return combine(x, y, f) })
	return api.Mat{Rows: a.Rows, Cols: a.Cols, A: rows}, api.OK
}

// Scale returns the matrix with the elements k times those of a.
func Scale(a api.Mat, k api.Int) api.Mat {
	rows := each(a.A, func(row []api.Int) []api.Int {
		return each(row, func(x api.Int) api.Int { return integer.Mul(k, x) })
	})
	return api.Mat{Rows: a.Rows, Cols: a.Cols, A: rows}
}

// Mul returns the product a b, and ErrShape if a has another number of columns than b has rows.
func Mul(a, b api.Mat) (api.Mat, api.Errno) {
	if !fit([]api.Mat{a, b}, size{a.Rows, a.Cols}, size{a.Cols, b.Cols}) {
		return api.Mat{}, api.ErrShape
	}
	rows := each(a.A, func(row []api.Int) []api.Int { return combination(row, b) })
	return api.Mat{Rows: a.Rows, Cols: b.Cols, A: rows}, api.OK
}

// combination returns the combination of the rows of a with these coefficients, one for each row.
func combination(coefficients []api.Int, a api.Mat) []api.Int {
	sum := make([]api.Int, a.Cols)
	for i, k := range coefficients {
		addMultiple(sum, k, a.A[i])
	}
	return sum
}

// addMultiple adds k times the row to sum, which has the same length. It passes over zeros, because boundaries and transformations have little else.
func addMultiple(sum []api.Int, k api.Int, row []api.Int) {
	if integer.Sign(k) == 0 {
		return
	}
	for j, x := range row {
		if integer.Sign(x) != 0 {
			sum[j] = integer.Add(sum[j], integer.Mul(k, x))
		}
	}
}

// Times returns v a, and ErrShape if v has another number of elements than a has rows.
func Times(v api.Vec, a api.Mat) (api.Vec, api.Errno) {
	product, err := Mul(oneRow(v), a)
	if err != api.OK {
		return nil, err
	}
	return product.A[0], api.OK
}

// Dot returns the sum of the products of corresponding elements, and ErrShape if the lengths differ.
func Dot(a, b api.Vec) (api.Int, api.Errno) {
	if len(a) != len(b) {
		return api.Int{}, api.ErrShape
	}
	sum := api.Int{}
	for _, product := range combine(a, b, integer.Mul) {
		sum = integer.Add(sum, product)
	}
	return sum, api.OK
}
