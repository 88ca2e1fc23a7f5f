package matrix_test

import (
	"testing"

	"torsion/matrix"
)

// P5.3: transposes of products, and transposes of transposes.

func TestTransposesOfProducts(t *testing.T) {
	s, get := source(20), must(t)
	triples(func(l, m, n int) {
		a, b := random(s, l, m), random(s, m, n)
		if !same(matrix.Transpose(get(matrix.Mul(a, b))), get(matrix.Mul(matrix.Transpose(b), matrix.Transpose(a)))) {
			t.Errorf("%+v, %+v", a, b)
		}
	})
}

func TestTransposingTwiceChangesNothing(t *testing.T) {
	s := source(21)
	pairs(func(m, n int) {
		a := random(s, m, n)
		if b := matrix.Transpose(a); b.Rows != n || b.Cols != m || !same(matrix.Transpose(b), a) {
			t.Errorf("%+v", a)
		}
	})
}

func TestTransposesOfSumsAndIdentities(t *testing.T) {
	s, get := source(22), must(t)
	pairs(func(m, n int) {
		a, b := random(s, m, n), random(s, m, n)
		if !same(matrix.Transpose(get(matrix.Add(a, b))), get(matrix.Add(matrix.Transpose(a), matrix.Transpose(b)))) {
			t.Errorf("%+v, %+v", a, b)
		}
		if !same(matrix.Transpose(matrix.Identity(n)), matrix.Identity(n)) || !same(matrix.Transpose(matrix.New(m, n)), matrix.New(n, m)) {
			t.Errorf("identities or zeros: %d, %d", m, n)
		}
	})
}
