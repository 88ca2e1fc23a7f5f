package matrix_test

import (
	"math/big"
	"testing"

	"torsion/api"
	"torsion/matrix"
)

// P5.6: Times and Dot are products of matrices with one row.

func TestTimes(t *testing.T) {
	s, get := source(50), must(t)
	pairs(func(m, n int) {
		for range 5 {
			v, a := randomVec(s, m), random(s, m, n)
			got, err := matrix.Times(v, a)
			if err != api.OK || !same(rowMatrix(got), multiplied(rowMatrix(v), a)) || !same(rowMatrix(got), get(matrix.Mul(rowMatrix(v), a))) {
				t.Errorf("Times(%+v, %+v) = %+v, %v", v, a, got, err)
			}
		}
	})
}

// v A is the combination of the rows of A with the coefficients v.
func TestTimesIsACombinationOfRows(t *testing.T) {
	s := source(51)
	pairs(func(m, n int) {
		a := random(s, m, n)
		for i := range m {
			v := make(api.Vec, m)
			v[i] = number(1)
			if got, err := matrix.Times(v, a); err != api.OK || !sameVec(got, a.A[i]) {
				t.Errorf("row %d of %+v: %+v, %v", i, a, got, err)
			}
		}
		if got, err := matrix.Times(make(api.Vec, m), a); err != api.OK || !sameVec(got, make(api.Vec, n)) {
			t.Errorf("no row of %+v: %+v, %v", a, got, err)
		}
	})
}

func TestDot(t *testing.T) {
	s, get := source(52), must(t)
	for n := range 12 {
		for range 10 {
			a, b := randomVec(s, n), randomVec(s, n)
			want := new(big.Int)
			for i := range n {
				want.Add(want, new(big.Int).Mul(value(a[i]), value(b[i])))
			}
			got, err := matrix.Dot(a, b)
			if err != api.OK || !sameInt(got, whole(want)) || !sameInt(got, get(matrix.Mul(rowMatrix(a), columnMatrix(b))).A[0][0]) {
				t.Errorf("Dot(%+v, %+v) = %+v, %v", a, b, got, err)
			}
			if other, err := matrix.Dot(b, a); err != api.OK || !sameInt(other, got) {
				t.Errorf("Dot(%+v, %+v) = %+v, %v", b, a, other, err)
			}
		}
	}
	for _, x := range []struct {
		a, b api.Vec
		want int64
	}{{nil, nil, 0}, {api.Vec{}, nil, 0}, {vec(0), vec(5), 0}, {vec(2), vec(-3), -6}, {vec(1, 2, 3), vec(4, 5, -6), -4}, {vec(3, 4), vec(-4, 3), 0}} {
		if got, err := matrix.Dot(x.a, x.b); err != api.OK || !sameInt(got, number(x.want)) {
			t.Errorf("Dot(%+v, %+v) = %+v, %v", x.a, x.b, got, err)
		}
	}
}

// The elements of a product are products of a row and a column.
func TestElementsOfProductsAreDots(t *testing.T) {
	s, get := source(53), must(t)
	triples(func(l, m, n int) {
		a, b := random(s, l, m), random(s, m, n)
		product, columns := get(matrix.Mul(a, b)), matrix.Transpose(b)
		for i, row := range a.A {
			for j, column := range columns.A {
				if d, err := matrix.Dot(row, column); err != api.OK || !sameInt(d, product.A[i][j]) {
					t.Errorf("row %d of %+v, column %d of %+v: %+v, %v", i, a, j, b, d, err)
				}
			}
		}
	})
}
