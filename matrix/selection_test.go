package matrix_test

import (
	"math/big"
	"math/rand/v2"
	"testing"

	"torsion/matrix"
)

// P5.5: selection.

// indices returns up to n + 2 numbers from 0 to n - 1, some of them more than once; there are none if n is 0.
func indices(s *rand.Rand, n int) []int {
	var list []int
	if n > 0 {
		for range s.IntN(n + 3) {
			list = append(list, s.IntN(n))
		}
	}
	return list
}

// upTo returns the numbers from 0 to n - 1.
func upTo(n int) []int {
	var list []int
	for i := range n {
		list = append(list, i)
	}
	return list
}

// through returns the elements of list with these indices.
func through(list, indices []int) []int {
	var out []int
	for _, i := range indices {
		out = append(out, list[i])
	}
	return out
}

func TestPick(t *testing.T) {
	s := source(40)
	pairs(func(m, n int) {
		for range 10 {
			a, rows, cols := random(s, m, n), indices(s, m), indices(s, n)
			picked, err := matrix.Pick(a, rows, cols)
			expect(t, "Pick", picked, err, made(len(rows), len(cols), func(i, j int) *big.Int { return at(a, rows[i], cols[j]) }))
		}
	})
}

func TestPickingNothingAndEverything(t *testing.T) {
	s := source(41)
	pairs(func(m, n int) {
		a := random(s, m, n)
		everything, err := matrix.Pick(a, upTo(m), upTo(n))
		expect(t, "Pick of everything", everything, err, a)
		nothing, err := matrix.Pick(a, nil, nil)
		expect(t, "Pick of nothing", nothing, err, zeros(0, 0))
		noRows, err := matrix.Pick(a, []int{}, upTo(n))
		expect(t, "Pick without rows", noRows, err, zeros(0, n))
		noCols, err := matrix.Pick(a, upTo(m), []int{})
		expect(t, "Pick without columns", noCols, err, zeros(m, 0))
	})
}

func TestPickingFromPickedMatrices(t *testing.T) {
	s, get := source(42), must(t)
	pairs(func(m, n int) {
		for range 10 {
			a, rows, cols := random(s, m, n), indices(s, m), indices(s, n)
			someRows, someCols := indices(s, len(rows)), indices(s, len(cols))
			twice := get(matrix.Pick(get(matrix.Pick(a, rows, cols)), someRows, someCols))
			if !same(twice, get(matrix.Pick(a, through(rows, someRows), through(cols, someCols)))) {
				t.Errorf("%+v, rows %v, then %v, columns %v, then %v: %+v", a, rows, someRows, cols, someCols, twice)
			}
		}
	})
}

func TestRowsAndColumnsOfProducts(t *testing.T) {
	s, get := source(43), must(t)
	triples(func(l, m, n int) {
		a, b := random(s, l, m), random(s, m, n)
		product := get(matrix.Mul(a, b))
		for i := range l {
			if !same(get(matrix.Pick(product, []int{i}, upTo(n))), get(matrix.Mul(get(matrix.Pick(a, []int{i}, upTo(m))), b))) {
				t.Errorf("row %d of the product of %+v and %+v", i, a, b)
			}
		}
		for j := range n {
			if !same(get(matrix.Pick(product, upTo(l), []int{j})), get(matrix.Mul(a, get(matrix.Pick(b, upTo(m), []int{j}))))) {
				t.Errorf("column %d of the product of %+v and %+v", j, a, b)
			}
		}
		rows, cols := indices(s, l), indices(s, n)
		if !same(get(matrix.Pick(product, rows, cols)), get(matrix.Mul(get(matrix.Pick(a, rows, upTo(m))), get(matrix.Pick(b, upTo(m), cols))))) {
			t.Errorf("rows %v and columns %v of the product of %+v and %+v", rows, cols, a, b)
		}
	})
}

// Picking rows is a product with the rows of the identity, and transposing exchanges the lists.
func TestPickingAsAProduct(t *testing.T) {
	s, get := source(44), must(t)
	pairs(func(m, n int) {
		a, rows, cols := random(s, m, n), indices(s, m), indices(s, n)
		left := get(matrix.Pick(matrix.Identity(m), rows, upTo(m)))
		right := get(matrix.Pick(matrix.Identity(n), upTo(n), cols))
		picked := get(matrix.Pick(a, rows, cols))
		if !same(get(matrix.Mul(get(matrix.Mul(left, a)), right)), picked) || !same(matrix.Transpose(picked), get(matrix.Pick(matrix.Transpose(a), cols, rows))) {
			t.Errorf("%+v, rows %v, columns %v", a, rows, cols)
		}
	})
}
