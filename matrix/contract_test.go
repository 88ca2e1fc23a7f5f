package matrix_test

import (
	"math/big"
	"testing"

	"torsion/api"
	"torsion/matrix"
)

// P5.1: each function of E1 to E5 against its definition, and the examples of the chapter.

func TestNew(t *testing.T) {
	pairs(func(m, n int) {
		if a := matrix.New(m, n); !same(a, zeros(m, n)) {
			t.Errorf("New(%d, %d) = %+v", m, n, a)
		}
	})
}

// Callers set the elements of a new matrix.
func TestElementsOfNewMatricesAreIndependent(t *testing.T) {
	for i := range 3 {
		for j := range 4 {
			a := matrix.New(3, 4)
			a.A[i][j] = number(5)
			a.A[i] = append(a.A[i], number(6))
			a.A[i] = a.A[i][:4]
			if want := made(3, 4, func(k, l int) *big.Int { return spot(k == i && l == j, 5) }); !same(a, want) {
				t.Errorf("element %d, %d of a new matrix: %+v", i, j, a)
			}
		}
	}
}

// spot returns n where the condition holds, and 0 elsewhere.
func spot(condition bool, n int64) *big.Int {
	if condition {
		return big.NewInt(n)
	}
	return new(big.Int)
}

func TestIdentity(t *testing.T) {
	for n := range 9 {
		if a := matrix.Identity(n); !same(a, made(n, n, func(i, j int) *big.Int { return spot(i == j, 1) })) {
			t.Errorf("Identity(%d) = %+v", n, a)
		}
	}
}

func TestValid(t *testing.T) {
	s := source(1)
	pairs(func(m, n int) {
		if a := random(s, m, n); !matrix.Valid(a) {
			t.Errorf("not valid: %+v", a)
		}
	})
	for _, a := range []api.Mat{{}, {A: [][]api.Int{}}, {Cols: 3}, {Rows: 2, A: [][]api.Int{nil, {}}}, {Rows: 1, Cols: 1, A: [][]api.Int{{{Mag: []uint32{}}}}}} {
		if !matrix.Valid(a) {
			t.Errorf("not valid: %+v", a)
		}
	}
}

func TestInvalid(t *testing.T) {
	one := number(1)
	for _, a := range []api.Mat{
		{Rows: -1}, {Cols: -1}, {Rows: -1, Cols: -1}, {Rows: -1, Cols: 2}, {Rows: 2, Cols: -1}, {Rows: 1, Cols: -1, A: [][]api.Int{nil}}, {Rows: -1, Cols: 1, A: [][]api.Int{{one}}},
		{Rows: 1}, {Rows: 1, A: [][]api.Int{}}, {A: [][]api.Int{{}}}, {Rows: 1, A: [][]api.Int{{}, {}}}, {Rows: 2, A: [][]api.Int{{}}}, {Cols: 1, A: [][]api.Int{{one}}},
		{Rows: 1, Cols: 1, A: [][]api.Int{{}}}, {Rows: 1, Cols: 1, A: [][]api.Int{{one, one}}}, {Rows: 1, A: [][]api.Int{{one}}}, {Rows: 1, Cols: 2, A: [][]api.Int{{one}}},
		{Rows: 2, Cols: 2, A: [][]api.Int{{one, one}, {one}}}, {Rows: 2, Cols: 2, A: [][]api.Int{{one}, {one, one}}}, {Rows: 2, Cols: 2, A: [][]api.Int{{one, one}, {one, one, one}}}, {Rows: 2, Cols: 2, A: [][]api.Int{{one, one, one}, {one}}}, {Rows: 2, Cols: 2, A: [][]api.Int{{one, one}, nil}},
	} {
		if matrix.Valid(a) {
			t.Errorf("valid: %+v", a)
		}
	}
	for _, x := range []api.Int{{Neg: true}, {Neg: true, Mag: []uint32{}}, {Mag: []uint32{0}}, {Mag: []uint32{5, 0}}, {Neg: true, Mag: []uint32{1, 2, 0}}} {
		for i := range 3 {
			for j := range 2 {
				a := ints(2, 1, 2, 3, 4, 5, 6)
				a.A[i][j] = x
				if matrix.Valid(a) {
					t.Errorf("valid: %+v", a)
				}
			}
		}
	}
}

func TestEqual(t *testing.T) {
	s := source(2)
	pairs(func(m, n int) {
		a := random(s, m, n)
		again := made(m, n, func(i, j int) *big.Int { return at(a, i, j) })
		if !matrix.Equal(a, again) || !matrix.Equal(a, a) {
			t.Errorf("%+v is not equal to itself", a)
		}
		for i := range m {
			for j := range n {
				x := at(a, i, j)
				for _, y := range []*big.Int{new(big.Int).Neg(x), new(big.Int).Add(x, big.NewInt(1)), new(big.Int).Sub(x, big.NewInt(1)), new(big.Int).Lsh(x, 32), new(big.Int), element(s)} {
					again.A[i][j] = whole(y)
					if want := x.Cmp(y) == 0; matrix.Equal(a, again) != want || matrix.Equal(again, a) != want {
						t.Errorf("%v and %v, element %d, %d: Equal is not %v", x, y, i, j, want)
					}
				}
				again.A[i][j] = a.A[i][j]
			}
		}
	})
}

// Empty matrices of different sizes are not equal, nor are matrices of which one begins with the other.
func TestEqualComparesSizes(t *testing.T) {
	pairs(func(m, n int) {
		pairs(func(k, l int) {
			if want := m == k && n == l; matrix.Equal(zeros(m, n), zeros(k, l)) != want {
				t.Errorf("%d x %d and %d x %d: Equal is not %v", m, n, k, l, want)
			}
		})
	})
	if matrix.Equal(ints(3, 1, 2, 3, 4, 5, 6), ints(2, 1, 2, 3, 4, 5, 6)) || !matrix.Equal(api.Mat{Rows: 1, A: [][]api.Int{nil}}, api.Mat{Rows: 1, A: [][]api.Int{{}}}) {
		t.Error("Equal")
	}
}

func TestZero(t *testing.T) {
	for n := range 6 {
		v := make(api.Vec, n)
		if !matrix.Zero(v) {
			t.Errorf("Zero of %d zeros", n)
		}
		for i := range v {
			for _, x := range []int64{1, -1, 1 << 32, -1 << 62} {
				v[i] = number(x)
				if matrix.Zero(v) {
					t.Errorf("Zero(%+v)", v)
				}
			}
			v[i] = api.Int{Mag: []uint32{}}
		}
		if !matrix.Zero(v) || !matrix.Zero(nil) {
			t.Errorf("Zero of %d zeros", n)
		}
	}
}

func TestSums(t *testing.T) {
	s := source(3)
	pairs(func(m, n int) {
		a, b := random(s, m, n), random(s, m, n)
		sum, err := matrix.Add(a, b)
		expect(t, "Add", sum, err, made(m, n, func(i, j int) *big.Int { return new(big.Int).Add(at(a, i, j), at(b, i, j)) }))
		difference, err := matrix.Sub(a, b)
		expect(t, "Sub", difference, err, made(m, n, func(i, j int) *big.Int { return new(big.Int).Sub(at(a, i, j), at(b, i, j)) }))
		for _, k := range []*big.Int{new(big.Int), big.NewInt(1), big.NewInt(-1), big.NewInt(-2), element(s)} {
			expect(t, "Scale", matrix.Scale(a, whole(k)), api.OK, scaled(a, k))
		}
	})
}

func TestProducts(t *testing.T) {
	s := source(4)
	triples(func(l, m, n int) {
		a, b := random(s, l, m), random(s, m, n)
		product, err := matrix.Mul(a, b)
		expect(t, "Mul", product, err, multiplied(a, b))
	})
}

// In a product of matrices with a single element other than 0, it is clear which element goes where.
func TestProductsOfUnits(t *testing.T) {
	unit := func(m, n, i, j int, x int64) api.Mat {
		return made(m, n, func(k, l int) *big.Int { return spot(k == i && l == j, x) })
	}
	for i := range 2 {
		for j := range 3 {
			for k := range 3 {
				for l := range 4 {
					want := zeros(2, 4)
					if j == k {
						want = unit(2, 4, i, l, -35)
					}
					product, err := matrix.Mul(unit(2, 3, i, j, 5), unit(3, 4, k, l, -7))
					expect(t, "Mul", product, err, want)
				}
			}
		}
	}
}

func TestTransposes(t *testing.T) {
	s := source(5)
	pairs(func(m, n int) {
		a := random(s, m, n)
		expect(t, "Transpose", matrix.Transpose(a), api.OK, made(n, m, func(i, j int) *big.Int { return at(a, j, i) }))
	})
}

func TestBlocks(t *testing.T) {
	s := source(6)
	triples(func(l, m, n int) {
		a, b := random(s, l, n), random(s, m, n)
		stacked, err := matrix.Stack(a, b)
		expect(t, "Stack", stacked, err, made(l+m, n, func(i, j int) *big.Int {
			if i < l {
				return at(a, i, j)
			}
			return at(b, i-l, j)
		}))
		c, d := random(s, n, l), random(s, n, m)
		beside, err := matrix.Beside(c, d)
		expect(t, "Beside", beside, err, made(n, l+m, func(i, j int) *big.Int {
			if j < l {
				return at(c, i, j)
			}
			return at(d, i, j-l)
		}))
	})
}

func TestExamples(t *testing.T) {
	product, err := matrix.Mul(ints(2, 1, 2, 3, 4), ints(2, 0, 1, 1, 0))
	expect(t, "Mul", product, err, ints(2, 2, 1, 4, 3))
	if v, err := matrix.Times(vec(1, -1), ints(2, 1, 2, 3, 4)); err != api.OK || !sameVec(v, vec(-2, -2)) {
		t.Errorf("Times: %+v, %v", v, err)
	}
	stacked, err := matrix.Stack(ints(2, 1, 2), ints(2, 3, 4))
	expect(t, "Stack", stacked, err, ints(2, 1, 2, 3, 4))
	beside, err := matrix.Beside(ints(1, 1, 2), ints(1, 3, 4))
	expect(t, "Beside", beside, err, ints(2, 1, 3, 2, 4))
	picked, err := matrix.Pick(ints(3, 1, 2, 3, 4, 5, 6), []int{1, 1}, []int{2, 0})
	expect(t, "Pick", picked, err, ints(2, 6, 4, 6, 4))
	empty, err := matrix.Mul(zeros(2, 0), zeros(0, 3))
	expect(t, "Mul", empty, err, zeros(2, 3))
	if m, err := matrix.Mul(ints(2, 1, 2), ints(2, 1, 2)); err != api.ErrShape || !isZero(m) {
		t.Errorf("Mul: %+v, %v", m, err)
	}
	if m, err := matrix.Pick(ints(2, 1, 2, 3, 4), []int{2}, []int{0}); err != api.ErrArg || !isZero(m) {
		t.Errorf("Pick: %+v, %v", m, err)
	}
	if d, err := matrix.Dot(vec(1), nil); err != api.ErrShape || !sameInt(d, api.Int{}) {
		t.Errorf("Dot: %+v, %v", d, err)
	}
}
