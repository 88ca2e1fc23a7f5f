package matrix_test

import (
	"testing"

	"torsion/api"
	"torsion/matrix"
)

// P5.2: the laws of sums and products.

func TestLawsOfSums(t *testing.T) {
	s, get := source(10), must(t)
	pairs(func(m, n int) {
		a, b, c, zero := random(s, m, n), random(s, m, n), random(s, m, n), matrix.New(m, n)
		sum := get(matrix.Add(a, b))
		if !same(sum, get(matrix.Add(b, a))) {
			t.Errorf("not commutative: %+v, %+v", a, b)
		}
		if !same(get(matrix.Add(sum, c)), get(matrix.Add(a, get(matrix.Add(b, c))))) {
			t.Errorf("not associative: %+v, %+v, %+v", a, b, c)
		}
		if !same(get(matrix.Add(a, zero)), a) || !same(get(matrix.Sub(a, zero)), a) || !same(get(matrix.Sub(a, a)), zero) {
			t.Errorf("0 and opposites: %+v", a)
		}
		if !same(get(matrix.Sub(sum, b)), a) || !same(get(matrix.Sub(a, b)), get(matrix.Add(a, matrix.Scale(b, number(-1))))) {
			t.Errorf("differences: %+v, %+v", a, b)
		}
	})
}

func TestProductsAreAssociative(t *testing.T) {
	s, get := source(11), must(t)
	quadruples(func(k, l, m, n int) {
		a, b, c := random(s, k, l), random(s, l, m), random(s, m, n)
		if !same(get(matrix.Mul(get(matrix.Mul(a, b)), c)), get(matrix.Mul(a, get(matrix.Mul(b, c))))) {
			t.Errorf("not associative: %+v, %+v, %+v", a, b, c)
		}
	})
}

func TestProductsDistributeOverSums(t *testing.T) {
	s, get := source(12), must(t)
	triples(func(l, m, n int) {
		a, b, c, d := random(s, l, m), random(s, l, m), random(s, m, n), random(s, m, n)
		if !same(get(matrix.Mul(get(matrix.Add(a, b)), c)), get(matrix.Add(get(matrix.Mul(a, c)), get(matrix.Mul(b, c))))) {
			t.Errorf("sum on the left: %+v, %+v, %+v", a, b, c)
		}
		if !same(get(matrix.Mul(a, get(matrix.Sub(c, d)))), get(matrix.Sub(get(matrix.Mul(a, c)), get(matrix.Mul(a, d))))) {
			t.Errorf("difference on the right: %+v, %+v, %+v", a, c, d)
		}
	})
}

func TestMultiplesArePartOfTheRing(t *testing.T) {
	s, get := source(13), must(t)
	triples(func(l, m, n int) {
		a, b, k := random(s, l, m), random(s, m, n), whole(element(s))
		product := get(matrix.Mul(a, b))
		if !same(get(matrix.Mul(matrix.Scale(a, k), b)), matrix.Scale(product, k)) || !same(get(matrix.Mul(a, matrix.Scale(b, k))), matrix.Scale(product, k)) {
			t.Errorf("multiples: %+v, %+v, %+v", a, b, k)
		}
		if !same(matrix.Scale(a, k), get(matrix.Mul(matrix.Scale(matrix.Identity(l), k), a))) {
			t.Errorf("multiples of the identity: %+v, %+v", a, k)
		}
	})
}

func TestIdentitiesAreNeutral(t *testing.T) {
	s, get := source(14), must(t)
	pairs(func(m, n int) {
		a := random(s, m, n)
		if !same(get(matrix.Mul(matrix.Identity(m), a)), a) || !same(get(matrix.Mul(a, matrix.Identity(n))), a) {
			t.Errorf("identities: %+v", a)
		}
		if !same(get(matrix.Mul(zeros(3, m), a)), zeros(3, n)) || !same(get(matrix.Mul(a, zeros(n, 2))), zeros(m, 2)) {
			t.Errorf("zeros: %+v", a)
		}
	})
}

// Products are not commutative: (0, 1), (0, 0) and (0, 0), (1, 0) are a counterexample.
func TestProductsAreNotCommutative(t *testing.T) {
	a, b := ints(2, 0, 1, 0, 0), ints(2, 0, 0, 1, 0)
	left, err := matrix.Mul(a, b)
	expect(t, "Mul", left, err, ints(2, 1, 0, 0, 0))
	right, err := matrix.Mul(b, a)
	expect(t, "Mul", right, err, ints(2, 0, 0, 0, 1))
	square, err := matrix.Mul(a, a)
	expect(t, "Mul", square, err, api.Mat{Rows: 2, Cols: 2, A: [][]api.Int{{{}, {}}, {{}, {}}}})
}
