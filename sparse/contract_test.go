package sparse_test

import (
	"math"
	"math/big"
	"slices"
	"testing"

	"torsion/api"
	"torsion/sparse"
)

// P6.1: each function of F1 to F4 against its definition, and the examples of the chapter. Those of rows that are inserted and removed are in rows_test.go.

func TestFromAndTo(t *testing.T) {
	s := source(1)
	pairs(func(m, n int) {
		for range 20 {
			a := random(s, m, n)
			if got := sparse.From(a.mat()); !same(got, a.sparse()) {
				t.Errorf("From(%+v) = %+v", a.mat(), got)
			}
			if got := sparse.To(a.sparse()); !sameMat(got, a.mat()) {
				t.Errorf("To(%+v) = %+v", a.sparse(), got)
			}
		}
	})
}

func TestNonzero(t *testing.T) {
	s := source(2)
	pairs(func(m, n int) {
		for range 20 {
			a := random(s, m, n)
			count := 0
			for _, x := range slices.Concat(a.element...) {
				if x.Sign() != 0 {
					count++
				}
			}
			if got := sparse.Nonzero(a.sparse()); got != count {
				t.Errorf("Nonzero(%+v) = %d", a.sparse(), got)
			}
		}
	})
}

func TestValid(t *testing.T) {
	s := source(3)
	pairs(func(m, n int) {
		if a := random(s, m, n).sparse(); !sparse.Valid(a) {
			t.Errorf("not valid: %+v", a)
		}
	})
	for _, a := range []api.Sparse{
		{}, {L: [][]api.Term{}}, {Cols: 3}, {Rows: 2, L: [][]api.Term{nil, {}}}, {Rows: 1, Cols: 1, L: [][]api.Term{terms(0, -1)}}, {Rows: 2, Cols: 3, L: [][]api.Term{terms(0, 1, 2, 5), terms(1, 7)}},
		{Rows: 1, Cols: math.MaxInt, L: [][]api.Term{terms(0, 1, math.MaxInt-1, 1)}}, {Cols: math.MaxInt},
	} {
		if !sparse.Valid(a) {
			t.Errorf("not valid: %+v", a)
		}
	}
}

func TestInvalid(t *testing.T) {
	for _, a := range []api.Sparse{
		{Rows: -1}, {Rows: 1}, {Rows: 1, L: [][]api.Term{}}, {L: [][]api.Term{nil}}, {Rows: 1, L: [][]api.Term{nil, nil}}, {Rows: 3, L: [][]api.Term{nil, nil}}, {Rows: -1, L: [][]api.Term{nil}},
		{Cols: -1}, {Cols: math.MinInt}, {Rows: 1, Cols: -1, L: [][]api.Term{nil}}, {Rows: 1, Cols: -1, L: [][]api.Term{terms(-2, 1)}}, {Rows: -1, Cols: -1},
	} {
		if sparse.Valid(a) {
			t.Errorf("valid: %+v", a)
		}
	}
	odd := func(neg bool, limbs ...uint32) []api.Term {
		return []api.Term{{Col: 1, V: api.Int{Neg: neg, Mag: limbs}}}
	}
	for _, row := range [][]api.Term{
		terms(3, 1), terms(4, 1), terms(0, 1, 3, 1), terms(3, 1, 0, 1), terms(-1, 1), terms(math.MinInt64, 1), terms(math.MaxInt64, 1),
		terms(1, 1, 1, 1), terms(1, 1, 1, 2), terms(2, 1, 1, 1), terms(0, 1, 2, 1, 1, 1), terms(1, 1, 0, 1, 2, 1), terms(0, 1, 1, 1, 2, 1, 2, 1), terms(0, 1, 1, 1, 2, 1, 3, 1),
		terms(1, 0), terms(0, 0, 1, 1), terms(0, 1, 1, 0), odd(true), odd(false, 0), odd(false, 5, 0), odd(true, 1, 2, 0), odd(true, 0),
	} {
		for i := range 3 {
			a := api.Sparse{Rows: 3, Cols: 3, L: [][]api.Term{terms(0, 1), nil, terms(1, 2, 2, 3)}}
			a.L[i] = row
			if sparse.Valid(a) {
				t.Errorf("valid: %+v", a)
			}
		}
	}
}

func TestEqual(t *testing.T) {
	s := source(4)
	pairs(func(m, n int) {
		for range 5 {
			a := random(s, m, n)
			if !sparse.Equal(a.sparse(), a.sparse()) {
				t.Errorf("not equal to itself: %+v", a.sparse())
			}
			for i := range m {
				for j := range n {
					b := made(m, n, func(k, l int) *big.Int { return a.element[k][l] })
					b.element[i][j] = new(big.Int).Add(a.element[i][j], element(s))
					want := a.element[i][j].Cmp(b.element[i][j]) == 0
					if sparse.Equal(a.sparse(), b.sparse()) != want || sparse.Equal(b.sparse(), a.sparse()) != want {
						t.Errorf("not %v: %+v, %+v", want, a.sparse(), b.sparse())
					}
				}
			}
		}
	})
}

func TestDifferentSizesAreNotEqual(t *testing.T) {
	zero := func(int, int) *big.Int { return new(big.Int) }
	pairs(func(k, l int) {
		pairs(func(m, n int) {
			a, b := made(k, l, zero).sparse(), made(m, n, zero).sparse()
			if sparse.Equal(a, b) != (k == m && l == n) {
				t.Errorf("%d x %d, %d x %d", k, l, m, n)
			}
		})
	})
	a, b := ints(2, 5, 0), ints(3, 5, 0, 0)
	if sparse.Equal(a.sparse(), b.sparse()) || sparse.Equal(b.sparse(), a.sparse()) {
		t.Error("the numbers of columns differ")
	}
}

func TestMerge(t *testing.T) {
	s := source(5)
	for n := range 12 {
		for range 200 {
			a, b, k := randomRow(s, n), randomRow(s, n), element(s)
			sum := func(_, j int) *big.Int { return new(big.Int).Add(a[j], new(big.Int).Mul(k, b[j])) }
			want := sparseRow(made(1, n, sum).element[0])
			if got := sparse.Merge(sparseRow(a), sparseRow(b), whole(k)); !sameRow(got, want) {
				t.Fatalf("Merge(%v, %v, %v) = %+v", a, b, k, got)
			}
		}
	}
}

// Rows need not belong to a matrix, so that their columns may be those of no matrix.
func TestMergeOfRowsWithGreatColumns(t *testing.T) {
	const last = math.MaxInt64
	a, b := terms(0, 2, last-1, 3, last, 4), terms(1, 5, last, 6)
	for _, c := range []struct {
		a, b []api.Term
		k    int64
		want []api.Term
	}{
		{a, b, 1, terms(0, 2, 1, 5, last-1, 3, last, 10)},
		{b, a, -1, terms(0, -2, 1, 5, last-1, -3, last, 2)},
		{a, nil, 7, a}, {nil, a, 1, a}, {nil, a, 0, nil}, {a, b, 0, a}, {nil, nil, 3, nil}, {a, a, -1, nil},
		{terms(last, 1), nil, 1, terms(last, 1)}, {nil, terms(last, 1), 1, terms(last, 1)}, {terms(last, 1), terms(last, 1), 1, terms(last, 2)},
	} {
		if got := sparse.Merge(c.a, c.b, number(c.k)); !sameRow(got, c.want) {
			t.Errorf("Merge(%+v, %+v, %d) = %+v", c.a, c.b, c.k, got)
		}
	}
}

func TestTranspose(t *testing.T) {
	s := source(6)
	pairs(func(m, n int) {
		for range 20 {
			a := random(s, m, n)
			expect(t, "Transpose", sparse.Transpose(a.sparse()), api.OK, a.turned().sparse())
		}
	})
}

func TestMul(t *testing.T) {
	s := source(7)
	triples(func(l, m, n int) {
		for range 20 {
			a, b := random(s, l, m), random(s, m, n)
			product, err := sparse.Mul(a.sparse(), b.sparse())
			expect(t, "Mul", product, err, a.times(b).sparse())
		}
	})
}

func TestMulOfOtherSizes(t *testing.T) {
	s := source(8)
	pairs(func(k, l int) {
		pairs(func(m, n int) {
			if l != m {
				product, err := sparse.Mul(random(s, k, l).sparse(), random(s, m, n).sparse())
				refused(t, "Mul", product, err, api.ErrShape)
			}
		})
	})
}

func TestTimes(t *testing.T) {
	s := source(9)
	pairs(func(m, n int) {
		for range 20 {
			row, a := randomRow(s, m), random(s, m, n)
			product, err := sparse.Times(vec(row), a.sparse())
			if want := vec(oneRow(row).times(a).element[0]); err != api.OK || !sameVec(product, want) {
				t.Errorf("Times(%v, %+v) = %+v, %v", row, a.sparse(), product, err)
			}
		}
	})
}

func TestTimesOfOtherLengths(t *testing.T) {
	s := source(10)
	for length := range 22 {
		pairs(func(m, n int) {
			if length != m {
				product, err := sparse.Times(vec(randomRow(s, length)), random(s, m, n).sparse())
				if err != api.ErrShape || len(product) != 0 {
					t.Errorf("%d elements, %d rows: %+v, %v", length, m, product, err)
				}
			}
		})
	}
}

// What is not stored takes neither time nor memory.
func TestMatricesWithManyColumns(t *testing.T) {
	const cols = math.MaxInt
	a := api.Sparse{Rows: 3, Cols: cols, L: [][]api.Term{terms(5, 1, cols-1, 2), nil, terms(cols-1, 3)}}
	b := ints(3, 1, 0, -1, 0, 4, 0).sparse()
	product, err := sparse.Mul(b, a)
	expect(t, "Mul", product, err, api.Sparse{Rows: 2, Cols: cols, L: [][]api.Term{terms(5, 1, cols-1, -1), nil}})
	longer, err := sparse.Insert(a, 1, terms(cols-1, 9))
	expect(t, "Insert", longer, err, api.Sparse{Rows: 4, Cols: cols, L: [][]api.Term{a.L[0], terms(cols-1, 9), nil, a.L[2]}})
	shorter, err := sparse.Remove(longer, 1)
	expect(t, "Remove", shorter, err, a)
	if !sparse.Valid(a) || !sparse.Equal(a, shorter) || sparse.Equal(a, longer) || sparse.Nonzero(a) != 3 {
		t.Error("Valid, Equal, Nonzero")
	}
	none := api.Sparse{Cols: cols}
	if got := sparse.From(sparse.To(none)); !same(got, none) {
		t.Errorf("From, To: %+v", got)
	}
}

func TestExamples(t *testing.T) {
	if got := sparse.Merge(terms(0, 2, 3, 1), terms(0, 1, 1, 5), number(-2)); !sameRow(got, terms(1, -10, 3, 1)) {
		t.Errorf("Merge: %+v", got)
	}
	got := sparse.From(ints(2, 0, 2, 0, 0).mat())
	expect(t, "From", got, api.OK, api.Sparse{Rows: 2, Cols: 2, L: [][]api.Term{terms(1, 2), nil}})
}
