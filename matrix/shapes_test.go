package matrix_test

import (
	"math"
	"testing"

	"torsion/api"
	"torsion/matrix"
)

// P5.7: sizes that do not fit are refused, others are not.

// operation is a function of two matrices, with the sizes that fit it and the size of its result.
type operation struct {
	name string
	f    func(a, b api.Mat) (api.Mat, api.Errno)
	fits func(a, b api.Mat) bool
	size func(a, b api.Mat) [2]int
}

func operations() []operation {
	sameSize := func(a, b api.Mat) bool { return a.Rows == b.Rows && a.Cols == b.Cols }
	first := func(a, b api.Mat) [2]int { return [2]int{a.Rows, a.Cols} }
	return []operation{
		{"Add", matrix.Add, sameSize, first},
		{"Sub", matrix.Sub, sameSize, first},
		{"Mul", matrix.Mul, func(a, b api.Mat) bool { return a.Cols == b.Rows }, func(a, b api.Mat) [2]int { return [2]int{a.Rows, b.Cols} }},
		{"Stack", matrix.Stack, func(a, b api.Mat) bool { return a.Cols == b.Cols }, func(a, b api.Mat) [2]int { return [2]int{a.Rows + b.Rows, a.Cols} }},
		{"Beside", matrix.Beside, func(a, b api.Mat) bool { return a.Rows == b.Rows }, func(a, b api.Mat) [2]int { return [2]int{a.Rows, a.Cols + b.Cols} }},
	}
}

func TestSizesOfTwoMatrices(t *testing.T) {
	s := source(60)
	list := operations()
	pairs(func(k, l int) {
		pairs(func(m, n int) {
			a, b := random(s, k, l), random(s, m, n)
			for _, o := range list {
				got, err := o.f(a, b)
				if !o.fits(a, b) {
					if err != api.ErrShape || !isZero(got) {
						t.Errorf("%s of %d x %d and %d x %d: %+v, %v", o.name, k, l, m, n, got, err)
					}
					continue
				}
				if err != api.OK || [2]int{got.Rows, got.Cols} != o.size(a, b) || !matrix.Valid(got) {
					t.Errorf("%s of %d x %d and %d x %d: %+v, %v", o.name, k, l, m, n, got, err)
				}
			}
		})
	})
}

func TestLengthsOfRows(t *testing.T) {
	s := source(61)
	for length := range 8 {
		v := randomVec(s, length)
		pairs(func(m, n int) {
			got, err := matrix.Times(v, random(s, m, n))
			if length != m {
				if err != api.ErrShape || len(got) != 0 {
					t.Errorf("Times of %d elements and %d x %d: %+v, %v", length, m, n, got, err)
				}
			} else if err != api.OK || len(got) != n {
				t.Errorf("Times of %d elements and %d x %d: %+v, %v", length, m, n, got, err)
			}
		})
		for other := range 8 {
			got, err := matrix.Dot(v, randomVec(s, other))
			if length != other && (err != api.ErrShape || !sameInt(got, api.Int{})) {
				t.Errorf("Dot of %d and %d elements: %+v, %v", length, other, got, err)
			}
			if length == other && err != api.OK {
				t.Errorf("Dot of %d and %d elements: %v", length, other, err)
			}
		}
	}
}

// One index that is not in the matrix is enough, wherever it stands, and even if the other list is empty.
func TestIndicesThatAreNotThere(t *testing.T) {
	s := source(62)
	refused := func(a api.Mat, rows, cols []int) {
		t.Helper()
		if got, err := matrix.Pick(a, rows, cols); err != api.ErrArg || !isZero(got) {
			t.Errorf("Pick of %d x %d, rows %v, columns %v: %+v, %v", a.Rows, a.Cols, rows, cols, got, err)
		}
	}
	pairs(func(m, n int) {
		a := random(s, m, n)
		for _, d := range []int{0, 1, 2, 1 << 31, 1 << 32, math.MaxInt - 20} {
			row, col := m+d, n+d
			for _, wrong := range [][]int{{row}, append(upTo(m), row), append([]int{row}, upTo(m)...), {-1 - d}, append(upTo(m), -1-d), {math.MinInt + d}} {
				refused(a, wrong, upTo(n))
				refused(a, wrong, nil)
				refused(a, wrong, []int{col})
			}
			for _, wrong := range [][]int{{col}, append(upTo(n), col), append([]int{col}, upTo(n)...), {-1 - d}, append(upTo(n), -1-d), {math.MinInt + d}} {
				refused(a, upTo(m), wrong)
				refused(a, nil, wrong)
			}
		}
	})
}

// The last index of each side is in the matrix, although it is not in the transposed one.
func TestLastIndices(t *testing.T) {
	picked, err := matrix.Pick(ints(3, 1, 2, 3, 4, 5, 6), []int{1, 0}, []int{2})
	expect(t, "Pick", picked, err, ints(1, 6, 3))
	picked, err = matrix.Pick(ints(2, 1, 2, 3, 4, 5, 6), []int{2}, []int{1, 0})
	expect(t, "Pick", picked, err, ints(2, 6, 5))
	if got, err := matrix.Pick(ints(3, 1, 2, 3, 4, 5, 6), []int{2}, []int{1}); err != api.ErrArg || !isZero(got) {
		t.Errorf("Pick: %+v, %v", got, err)
	}
}
