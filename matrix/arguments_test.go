package matrix_test

import (
	"fmt"
	"math/big"
	"slices"
	"testing"

	"torsion/api"
	"torsion/matrix"
)

// E6, and P1 and P2 of DOC.md: no function panics or runs forever, arguments are not modified, and results depend on nothing else.

// outcome has what all functions return for the same arguments.
type outcome struct {
	matrices []api.Mat
	row      api.Vec
	dot      api.Int
	errs     []api.Errno
	answers  []bool
}

func results(a, b api.Mat, v, w api.Vec, rows, cols []int) outcome {
	var o outcome
	keep := func(m api.Mat, err api.Errno) {
		o.matrices, o.errs = append(o.matrices, m), append(o.errs, err)
	}
	keep(matrix.Add(a, b))
	keep(matrix.Sub(a, b))
	keep(matrix.Mul(a, b))
	keep(matrix.Stack(a, b))
	keep(matrix.Beside(a, b))
	keep(matrix.Pick(a, rows, cols))
	keep(matrix.Transpose(a), api.OK)
	for _, k := range slices.Concat(v, w) {
		keep(matrix.Scale(a, k), api.OK)
	}
	var err api.Errno
	o.row, err = matrix.Times(v, a)
	o.errs = append(o.errs, err)
	o.dot, err = matrix.Dot(v, w)
	o.errs = append(o.errs, err)
	o.answers = []bool{matrix.Valid(a), matrix.Equal(a, b), matrix.Equal(a, a), matrix.Zero(v)}
	return o
}

// equal reports whether both outcomes are the same.
func equal(x, y outcome) bool {
	return slices.EqualFunc(x.matrices, y.matrices, same) && sameVec(x.row, y.row) && sameInt(x.dot, y.dot) && slices.Equal(x.errs, y.errs) && slices.Equal(x.answers, y.answers)
}

// integers returns the addresses of all integers of the outcome.
func (o outcome) integers() []*api.Int {
	list := []*api.Int{&o.dot}
	for i := range o.row {
		list = append(list, &o.row[i])
	}
	for _, m := range o.matrices {
		for _, row := range m.A {
			for j := range row {
				list = append(list, &row[j])
			}
		}
	}
	return list
}

// roomyInt, roomyVec and roomy return a copy with room behind each of its lists, in which there is something that no function may look at or change.
func roomyInt(x api.Int) api.Int {
	return api.Int{Neg: x.Neg, Mag: append(slices.Clone(x.Mag), 77, 78)[:len(x.Mag)]}
}

func roomyVec(v api.Vec) api.Vec {
	var out api.Vec
	for _, x := range v {
		out = append(out, roomyInt(x))
	}
	return append(out, number(79), number(80))[:len(v)]
}

func roomy(a api.Mat) api.Mat {
	var rows [][]api.Int
	for _, row := range a.A {
		rows = append(rows, roomyVec(row))
	}
	return api.Mat{Rows: a.Rows, Cols: a.Cols, A: append(rows, vec(81), vec(82))[:len(a.A)]}
}

// untouchedVec and untouched report whether a and its room are those of the original.
func untouchedVec(a, original api.Vec) bool {
	if !sameVec(a[:len(a)+2], append(slices.Clone(original), number(79), number(80))) {
		return false
	}
	return !slices.ContainsFunc(a, func(x api.Int) bool {
		room := x.Mag[len(x.Mag) : len(x.Mag)+2]
		return room[0] != 77 || room[1] != 78
	})
}

func untouched(a, original api.Mat) bool {
	for i, row := range a.A {
		if !untouchedVec(row, original.A[i]) {
			return false
		}
	}
	room := a.A[len(a.A) : len(a.A)+2]
	return same(a, original) && sameVec(room[0], vec(81)) && sameVec(room[1], vec(82))
}

// sizesOf names the sizes of two matrices.
func sizesOf(a, b api.Mat) string {
	return fmt.Sprintf("%d x %d and %d x %d", a.Rows, a.Cols, b.Rows, b.Cols)
}

// samples calls f for arguments of which each fits at least one function.
func samples(f func(a, b api.Mat, v, w api.Vec, rows, cols []int)) {
	s := source(70)
	pairs(func(m, n int) {
		v, w, rows, cols := randomVec(s, m), randomVec(s, m), indices(s, m), indices(s, n)
		for _, b := range []api.Mat{random(s, m, n), random(s, n, m), random(s, m+1, n), random(s, m, n+2)} {
			f(random(s, m, n), b, v, w, rows, cols)
		}
	})
}

func TestArgumentsAreNotModified(t *testing.T) {
	samples(func(a, b api.Mat, v, w api.Vec, rows, cols []int) {
		ra, rb, rv, rw := roomy(a), roomy(b), roomyVec(v), roomyVec(w)
		rowsBefore, colsBefore := slices.Clone(rows), slices.Clone(cols)
		first := results(ra, rb, rv, rw, rows, cols)
		if !untouched(ra, a) || !untouched(rb, b) || !untouchedVec(rv, v) || !untouchedVec(rw, w) || !slices.Equal(rows, rowsBefore) || !slices.Equal(cols, colsBefore) {
			t.Errorf("%s: arguments are modified", sizesOf(a, b))
		}
		if !equal(first, results(a, b, v, w, rows, cols)) {
			t.Errorf("%s: other results at the second call", sizesOf(a, b))
		}
	})
}

// Changing a result, element by element and limb by limb, changes no argument and no other part of a result.
func TestResultsAreValidAndNewMemory(t *testing.T) {
	samples(func(a, b api.Mat, v, w api.Vec, rows, cols []int) {
		first, want := results(a, b, v, w, rows, cols), results(a, b, v, w, rows, cols)
		for i, m := range first.matrices {
			if !matrix.Valid(m) {
				t.Errorf("%s: matrix %d is not valid: %+v", sizesOf(a, b), i, m)
			}
		}
		intact := want.integers()
		for i, x := range first.integers() {
			if !sameInt(*x, *intact[i]) {
				t.Errorf("%s: integer %d shares memory with another one", sizesOf(a, b), i)
			}
			for k := range x.Mag {
				x.Mag[k] += 5
			}
			x.Neg = !x.Neg
		}
		if !equal(want, results(a, b, v, w, rows, cols)) {
			t.Errorf("%s: results share memory with arguments", sizesOf(a, b))
		}
	})
}

// Rows of a result do not grow into one another.
func TestRowsOfResultsAreSeparate(t *testing.T) {
	s := source(71)
	a, b := random(s, 3, 3), random(s, 3, 3)
	o := results(a, b, vec(1, 2, 3), vec(4, 5, 6), []int{0, 0, 2}, []int{1, 1})
	want := results(a, b, vec(1, 2, 3), vec(4, 5, 6), []int{0, 0, 2}, []int{1, 1})
	o.matrices = append(o.matrices, matrix.New(3, 3), matrix.Identity(3))
	want.matrices = append(want.matrices, matrix.New(3, 3), matrix.Identity(3))
	for _, m := range o.matrices {
		for _, row := range m.A {
			_ = append(row, number(83), number(84))
		}
	}
	if !equal(o, want) {
		t.Error("a row that grows changes another one")
	}
}

// For invalid matrices the document specifies nothing, but the functions return, and errors come with zero values.
func TestInvalidArgumentsDoNoHarm(t *testing.T) {
	one, odd := number(1), api.Int{Neg: true, Mag: []uint32{0, 0}}
	list := []api.Mat{{}, ints(2, 1, 2, 3, 4), ints(1, 5), zeros(2, 0), zeros(0, 2)}
	for _, rows := range []int{-1 << 63, -1, 0, 1, 2, 1<<63 - 1} {
		for _, cols := range []int{-1 << 63, -1, 0, 1, 2, 1<<63 - 1} {
			for _, l := range [][][]api.Int{nil, {{}}, {{one}}, {{odd}}, {nil, {one}}, {{one}, nil}, {{one, odd}, {odd, one}}, {{one, one}, {one}, nil}} {
				// Results of which such a matrix would have 2^63 - 1 rows or elements are beyond the limits.
				if a := (api.Mat{Rows: rows, Cols: cols, A: l}); cols < 1<<62 || !matrix.Valid(a) {
					list = append(list, a)
				}
			}
		}
	}
	vectors := []api.Vec{nil, {one}, {odd}, {odd, one}}
	for _, a := range list {
		for i, b := range list {
			v, w := vectors[i%4], vectors[i/4%4]
			o := results(a, b, v, w, []int{i%4 - 1}, []int{i%3 - 1, 0})
			if !equal(o, results(a, b, v, w, []int{i%4 - 1}, []int{i%3 - 1, 0})) {
				t.Errorf("%+v, %+v: other results at the second call", a, b)
			}
			for k, m := range o.matrices[:6] {
				if o.errs[k] != api.OK && !isZero(m) {
					t.Errorf("%+v, %+v: %+v, %v", a, b, m, o.errs[k])
				}
			}
		}
	}
}

// Sizes that are negative are not valid either.
func TestNegativeSizesDoNoHarm(t *testing.T) {
	for _, m := range []int{-1 << 63, -1, 0, 3} {
		for _, n := range []int{-1 << 63, -7, -1, 0} {
			if a := matrix.New(m, n); !matrix.Valid(a) {
				t.Errorf("New(%d, %d) = %+v", m, n, a)
			}
		}
		if a := matrix.Identity(-m); !matrix.Valid(a) {
			t.Errorf("Identity(%d) = %+v", -m, a)
		}
	}
}

// Elements of thousands of binary digits are elements like others.
func TestGreatElements(t *testing.T) {
	x := new(big.Int).Lsh(big.NewInt(1), 6000)
	y := new(big.Int).Sub(x, big.NewInt(1))
	a := made(2, 2, func(i, j int) *big.Int { return spot(i == j, 1) })
	a.A[0][1] = whole(x)
	a.A[1][0] = whole(y)
	product, err := matrix.Mul(a, a)
	expect(t, "Mul", product, err, multiplied(a, a))
	v, err := matrix.Times(api.Vec{whole(y), whole(x)}, a)
	if err != api.OK || !same(rowMatrix(v), multiplied(rowMatrix(api.Vec{whole(y), whole(x)}), a)) {
		t.Errorf("Times: %v", err)
	}
}
