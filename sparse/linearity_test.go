package sparse_test

import (
	"math/big"
	"testing"

	"torsion/api"
	"torsion/sparse"
)

// P6.3: Merge is linear, products are associative and fit the transposition, and Times is the product with a matrix of one row.

func TestMergeIsLinear(t *testing.T) {
	s := source(30)
	merge := func(a, b []api.Term, k *big.Int) []api.Term { return sparse.Merge(a, b, whole(k)) }
	for n := range 9 {
		for range 100 {
			a, b, c := sparseRow(randomRow(s, n)), sparseRow(randomRow(s, n)), sparseRow(randomRow(s, n))
			k, l := element(s), element(s)
			minus, sum, product := new(big.Int).Neg(k), new(big.Int).Add(k, l), new(big.Int).Mul(k, l)
			for _, p := range [][2][]api.Term{
				{merge(merge(a, b, k), b, l), merge(a, b, sum)},
				{merge(a, merge(b, c, l), k), merge(merge(a, b, k), c, product)},
				{merge(merge(a, b, k), c, l), merge(merge(a, c, l), b, k)},
				{merge(merge(a, b, k), b, minus), a},
				{merge(a, b, new(big.Int)), a},
				{merge(a, b, big.NewInt(1)), merge(b, a, big.NewInt(1))},
				{merge(a, nil, k), a},
			} {
				if !sameRow(p[0], p[1]) {
					t.Fatalf("%+v, %+v, %+v, %v, %v", a, b, c, k, l)
				}
			}
		}
	}
}

func TestProductsAreAssociative(t *testing.T) {
	s, get := source(31), must(t)
	triples(func(l, m, n int) {
		for k := range 4 {
			a, b, c := random(s, k, l).sparse(), random(s, l, m).sparse(), random(s, m, n).sparse()
			left, right := get(sparse.Mul(get(sparse.Mul(a, b)), c)), get(sparse.Mul(a, get(sparse.Mul(b, c))))
			if !same(left, right) {
				t.Errorf("%+v, %+v, %+v", a, b, c)
			}
		}
	})
}

func TestProductsAreLinear(t *testing.T) {
	s, get := source(32), must(t)
	triples(func(l, m, n int) {
		a, b, c, k := random(s, l, m), random(s, l, m), random(s, m, n), element(s)
		sum := made(l, m, func(i, j int) *big.Int {
			return new(big.Int).Add(a.element[i][j], new(big.Int).Mul(k, b.element[i][j]))
		})
		left, right := get(sparse.Mul(a.sparse(), c.sparse())), get(sparse.Mul(b.sparse(), c.sparse()))
		for i, row := range get(sparse.Mul(sum.sparse(), c.sparse())).L {
			if !sameRow(row, sparse.Merge(left.L[i], right.L[i], whole(k))) {
				t.Errorf("%+v, %+v, %+v", a, b, c)
			}
		}
	})
}

func TestTransposesOfProducts(t *testing.T) {
	s, get := source(33), must(t)
	triples(func(l, m, n int) {
		a, b := random(s, l, m).sparse(), random(s, m, n).sparse()
		turned := get(sparse.Mul(sparse.Transpose(b), sparse.Transpose(a)))
		if !same(sparse.Transpose(get(sparse.Mul(a, b))), turned) {
			t.Errorf("%+v, %+v", a, b)
		}
	})
}

func TestTransposingTwiceChangesNothing(t *testing.T) {
	s := source(34)
	pairs(func(m, n int) {
		a := random(s, m, n).sparse()
		if b := sparse.Transpose(a); b.Rows != n || b.Cols != m || sparse.Nonzero(b) != sparse.Nonzero(a) || !same(sparse.Transpose(b), a) {
			t.Errorf("%+v", a)
		}
	})
}

func TestTimesIsTheProductWithOneRow(t *testing.T) {
	s, get := source(35), must(t)
	pairs(func(m, n int) {
		row, a := randomRow(s, m), random(s, m, n).sparse()
		v, err := sparse.Times(vec(row), a)
		product := get(sparse.Mul(oneRow(row).sparse(), a))
		if err != api.OK || len(v) != n || !same(sparse.From(api.Mat{Rows: 1, Cols: n, A: [][]api.Int{v}}), product) {
			t.Errorf("%v, %+v: %+v, %v", row, a, v, err)
		}
	})
}

func TestTimesOfProducts(t *testing.T) {
	s, get := source(36), must(t)
	triples(func(l, m, n int) {
		v, a, b := vec(randomRow(s, l)), random(s, l, m).sparse(), random(s, m, n).sparse()
		left, err := sparse.Times(v, a)
		if err != api.OK {
			t.Fatal(err)
		}
		twice, err := sparse.Times(left, b)
		once, errOnce := sparse.Times(v, get(sparse.Mul(a, b)))
		if err != api.OK || errOnce != api.OK || !sameVec(twice, once) {
			t.Errorf("%+v, %+v, %+v", v, a, b)
		}
	})
}
