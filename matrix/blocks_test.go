package matrix_test

import (
	"testing"

	"torsion/matrix"
)

// P5.4: products of blocks.

func TestProductsOfBlocks(t *testing.T) {
	s, get := source(30), must(t)
	quadruples(func(k, l, m, n int) {
		a, b, c := random(s, k, m), random(s, l, m), random(s, m, n)
		if !same(get(matrix.Mul(get(matrix.Stack(a, b)), c)), get(matrix.Stack(get(matrix.Mul(a, c)), get(matrix.Mul(b, c))))) {
			t.Errorf("rows of blocks: %+v, %+v, %+v", a, b, c)
		}
		a, b, c = random(s, k, m), random(s, m, l), random(s, m, n)
		if !same(get(matrix.Mul(a, get(matrix.Beside(b, c)))), get(matrix.Beside(get(matrix.Mul(a, b)), get(matrix.Mul(a, c))))) {
			t.Errorf("columns of blocks: %+v, %+v, %+v", a, b, c)
		}
		a, b = random(s, k, l), random(s, k, m)
		c, d := random(s, l, n), random(s, m, n)
		if !same(get(matrix.Mul(get(matrix.Beside(a, b)), get(matrix.Stack(c, d)))), get(matrix.Add(get(matrix.Mul(a, c)), get(matrix.Mul(b, d))))) {
			t.Errorf("a row and a column of blocks: %+v, %+v, %+v, %+v", a, b, c, d)
		}
	})
}

func TestBlocksAreAssociative(t *testing.T) {
	s, get := source(31), must(t)
	quadruples(func(k, l, m, n int) {
		a, b, c := random(s, k, n), random(s, l, n), random(s, m, n)
		if !same(get(matrix.Stack(get(matrix.Stack(a, b)), c)), get(matrix.Stack(a, get(matrix.Stack(b, c))))) {
			t.Errorf("Stack: %+v, %+v, %+v", a, b, c)
		}
		a, b, c = random(s, n, k), random(s, n, l), random(s, n, m)
		if !same(get(matrix.Beside(get(matrix.Beside(a, b)), c)), get(matrix.Beside(a, get(matrix.Beside(b, c))))) {
			t.Errorf("Beside: %+v, %+v, %+v", a, b, c)
		}
	})
}

// Four blocks are the same matrix, however they are put together; and their transposes are its transpose.
func TestFourBlocks(t *testing.T) {
	s, get := source(32), must(t)
	quadruples(func(k, l, m, n int) {
		a, b, c, d := random(s, k, m), random(s, k, n), random(s, l, m), random(s, l, n)
		all := get(matrix.Stack(get(matrix.Beside(a, b)), get(matrix.Beside(c, d))))
		if all.Rows != k+l || all.Cols != m+n || !same(all, get(matrix.Beside(get(matrix.Stack(a, c)), get(matrix.Stack(b, d))))) {
			t.Errorf("%+v, %+v, %+v, %+v", a, b, c, d)
		}
		left := get(matrix.Stack(matrix.Transpose(a), matrix.Transpose(b)))
		right := get(matrix.Stack(matrix.Transpose(c), matrix.Transpose(d)))
		if !same(matrix.Transpose(all), get(matrix.Beside(left, right))) {
			t.Errorf("transposes: %+v, %+v, %+v, %+v", a, b, c, d)
		}
	})
}

// Blocks without rows or without columns change nothing.
func TestEmptyBlocks(t *testing.T) {
	s, get := source(33), must(t)
	pairs(func(m, n int) {
		a := random(s, m, n)
		if !same(get(matrix.Stack(a, zeros(0, n))), a) || !same(get(matrix.Stack(zeros(0, n), a)), a) {
			t.Errorf("Stack: %+v", a)
		}
		if !same(get(matrix.Beside(a, zeros(m, 0))), a) || !same(get(matrix.Beside(zeros(m, 0), a)), a) {
			t.Errorf("Beside: %+v", a)
		}
	})
}
