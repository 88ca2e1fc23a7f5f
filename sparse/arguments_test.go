package sparse_test

import (
	"math"
	"slices"
	"testing"

	"torsion/api"
	"torsion/sparse"
)

// P1 and P2 of DOC.md: no function panics or runs forever, arguments are not modified, and results depend on nothing else.

// arguments are those of all functions.
type arguments struct {
	a, b   api.Sparse
	m      api.Mat
	v      api.Vec
	rows   [2][]api.Term
	factor api.Int
	i      int
}

// outcome has what all functions return for the same arguments. Matrices that are not sparse have the rows of m, and rows that are sparse are those of lists.
type outcome struct {
	lists   []api.Sparse
	m       api.Mat
	errs    []api.Errno
	answers []bool
	counts  []int
}

func results(x arguments) outcome {
	var o outcome
	keep := func(s api.Sparse, err api.Errno) {
		o.lists, o.errs = append(o.lists, s), append(o.errs, err)
	}
	keep(sparse.Mul(x.a, x.b))
	keep(sparse.Insert(x.a, x.i, x.rows[0]))
	keep(sparse.Insert(x.a, x.a.Rows, x.rows[1]))
	keep(sparse.Insert(x.a, 0, x.rows[1]))
	keep(sparse.Remove(x.a, x.i))
	keep(sparse.Remove(x.a, x.a.Rows-1))
	keep(sparse.Remove(x.a, 0))
	keep(sparse.Transpose(x.a), api.OK)
	keep(sparse.From(x.m), api.OK)
	merged := [][]api.Term{sparse.Merge(x.rows[0], x.rows[1], x.factor), sparse.Merge(x.rows[1], nil, x.factor), sparse.Merge(nil, x.rows[0], x.factor)}
	keep(api.Sparse{L: merged}, api.OK)
	o.m = sparse.To(x.b)
	v, err := sparse.Times(x.v, x.a)
	o.m.A, o.errs = append(o.m.A, v), append(o.errs, err)
	o.answers = []bool{sparse.Valid(x.a), sparse.Equal(x.a, x.b), sparse.Equal(x.a, x.a)}
	o.counts = []int{sparse.Nonzero(x.a), sparse.Nonzero(x.b)}
	return o
}

// equal reports whether both outcomes are the same.
func equal(x, y outcome) bool {
	return slices.EqualFunc(x.lists, y.lists, same) && sameMat(x.m, y.m) && slices.Equal(x.errs, y.errs) && slices.Equal(x.answers, y.answers) && slices.Equal(x.counts, y.counts)
}

// integers returns the addresses of all integers of the outcome.
func (o outcome) integers() []*api.Int {
	var list []*api.Int
	for _, s := range o.lists {
		for _, row := range s.L {
			for j := range row {
				list = append(list, &row[j].V)
			}
		}
	}
	for _, row := range o.m.A {
		for j := range row {
			list = append(list, &row[j])
		}
	}
	return list
}

// roomyInt, roomyVec, roomyRow, roomyMat and roomy return a copy with room behind each of its lists, in which there is something that no function may look at or change.
func roomyInt(x api.Int) api.Int {
	return api.Int{Neg: x.Neg, Mag: append(slices.Clone(x.Mag), 77, 78)[:len(x.Mag)]}
}

func roomyVec(v []api.Int) []api.Int {
	var out []api.Int
	for _, x := range v {
		out = append(out, roomyInt(x))
	}
	return append(out, number(79), number(80))[:len(v)]
}

func roomyRow(row []api.Term) []api.Term {
	var out []api.Term
	for _, t := range row {
		out = append(out, api.Term{Col: t.Col, V: roomyInt(t.V)})
	}
	return append(out, terms(81, 82, 83, 84)...)[:len(row)]
}

func roomyMat(m api.Mat) api.Mat {
	var out [][]api.Int
	for _, row := range m.A {
		out = append(out, roomyVec(row))
	}
	return api.Mat{Rows: m.Rows, Cols: m.Cols, A: append(out, api.Vec{number(85)}, nil)[:len(m.A)]}
}

func roomy(s api.Sparse) api.Sparse {
	var out [][]api.Term
	for _, row := range s.L {
		out = append(out, roomyRow(row))
	}
	return api.Sparse{Rows: s.Rows, Cols: s.Cols, L: append(out, terms(86, 87), nil)[:len(s.L)]}
}

// roomyArguments returns a copy of all arguments with room behind each of their lists.
func roomyArguments(x arguments) arguments {
	return arguments{a: roomy(x.a), b: roomy(x.b), m: roomyMat(x.m), v: roomyVec(x.v), rows: [2][]api.Term{roomyRow(x.rows[0]), roomyRow(x.rows[1])}, factor: roomyInt(x.factor), i: x.i}
}

// widened returns the list with the two elements that are behind it.
func widened[T any](l []T) []T { return l[:len(l)+2] }

// sameRoomInt, sameRoomVec and sameRoomRow report whether a and b and what is behind their lists are the same.
func sameRoomInt(a, b api.Int) bool {
	return a.Neg == b.Neg && slices.Equal(widened(a.Mag), widened(b.Mag))
}

func sameRoomVec(a, b []api.Int) bool {
	return slices.EqualFunc(a, b, sameRoomInt) && sameVec(widened(a), widened(b))
}

func sameRoomRow(a, b []api.Term) bool {
	inner := func(x, y api.Term) bool { return x.Col == y.Col && sameRoomInt(x.V, y.V) }
	return slices.EqualFunc(a, b, inner) && sameRow(widened(a), widened(b))
}

// sameRoom reports the same of all arguments.
func sameRoom(x, y arguments) bool {
	for _, p := range [][2]api.Sparse{{x.a, y.a}, {x.b, y.b}} {
		if !same(p[0], p[1]) || !slices.EqualFunc(p[0].L, p[1].L, sameRoomRow) || !slices.EqualFunc(widened(p[0].L), widened(p[1].L), sameRow) {
			return false
		}
	}
	if !sameMat(x.m, y.m) || !slices.EqualFunc(x.m.A, y.m.A, sameRoomVec) || !slices.EqualFunc(widened(x.m.A), widened(y.m.A), sameVec) {
		return false
	}
	return sameRoomVec(x.v, y.v) && sameRoomRow(x.rows[0], y.rows[0]) && sameRoomRow(x.rows[1], y.rows[1]) && sameRoomInt(x.factor, y.factor) && x.i == y.i
}

// samples calls f for arguments of which each fits at least one function.
func samples(f func(x arguments)) {
	s := source(50)
	pairs(func(m, n int) {
		for _, b := range []table{random(s, n, m), random(s, m, n), random(s, m+1, n)} {
			for i := range m + 1 {
				f(arguments{
					a: random(s, m, n).sparse(), b: b.sparse(), m: random(s, m, n).mat(), v: vec(randomRow(s, m)),
					rows: [2][]api.Term{sparseRow(randomRow(s, n)), sparseRow(randomRow(s, n+i%2))}, factor: whole(element(s)), i: i,
				})
			}
		}
	})
}

func TestArgumentsAreNotModified(t *testing.T) {
	samples(func(x arguments) {
		given, before := roomyArguments(x), roomyArguments(x)
		first := results(given)
		if !sameRoom(given, before) {
			t.Errorf("arguments are modified: %+v", x)
		}
		if !equal(first, results(x)) {
			t.Errorf("other results at the second call: %+v", x)
		}
	})
}

// Changing a result, element by element and limb by limb, changes no argument and no other part of a result.
func TestResultsAreValidAndNewMemory(t *testing.T) {
	samples(func(x arguments) {
		first, want := results(x), results(roomyArguments(x))
		for i, s := range first.lists[:9] {
			if !sparse.Valid(s) {
				t.Errorf("list %d is not valid: %+v", i, s)
			}
		}
		intact := want.integers()
		for i, n := range first.integers() {
			if !sameInt(*n, *intact[i]) {
				t.Errorf("integer %d shares memory with another one: %+v", i, x)
			}
			for k := range n.Mag {
				n.Mag[k] += 5
			}
			n.Neg = !n.Neg
		}
		if !equal(want, results(x)) {
			t.Errorf("results share memory with arguments: %+v", x)
		}
	})
}

// Rows of a result do not grow into one another, nor into arguments.
func TestRowsOfResultsAreSeparate(t *testing.T) {
	samples(func(x arguments) {
		o, want := results(x), results(x)
		for _, s := range o.lists {
			for _, row := range s.L {
				_ = append(row, terms(88, 89, 90, 91)...)
			}
			_ = append(s.L, terms(92, 93), terms(94, 95))
		}
		for _, row := range o.m.A {
			_ = append(row, number(96), number(97))
		}
		if !equal(o, want) || !equal(want, results(x)) {
			t.Errorf("a row that grows changes another one: %+v", x)
		}
	})
}

// odd are lists of terms of which most are no sparse rows.
func odd() [][]api.Term {
	zero := api.Int{Neg: true, Mag: []uint32{0, 0}}
	return [][]api.Term{
		nil, {}, terms(0, 1), terms(1, 0), terms(1, 1, 0, 1), terms(0, 1, 0, 1), terms(-1, 1), terms(math.MinInt64, 1, math.MaxInt64, 1),
		terms(math.MaxInt64, 1, 5, 1), {{Col: 0, V: zero}}, {{Col: 1, V: zero}, {Col: -7, V: zero}},
	}
}

// For invalid matrices the document specifies nothing, but the functions return, and errors come with zero values.
func TestInvalidArgumentsDoNoHarm(t *testing.T) {
	rows := odd()
	list := []api.Sparse{{}, ints(2, 1, 2, 3, 4).sparse(), ints(1, 5).sparse()}
	mats := []api.Mat{{}, {Rows: -1}, {Cols: -1}, {Rows: 1, Cols: 1, A: [][]api.Int{nil, {{Neg: true}}}}, {Rows: 3, A: [][]api.Int{{{Mag: []uint32{0}}, number(1)}, nil}}}
	vectors := []api.Vec{nil, {number(1)}, {{Mag: []uint32{0}}}, {number(2), {Neg: true, Mag: []uint32{0, 0}}}}
	for _, m := range []int{math.MinInt, -1, 0, 1, 2, math.MaxInt} {
		for _, n := range []int{math.MinInt, -1, 0, 1, 2, math.MaxInt} {
			for i, row := range rows {
				for _, l := range [][][]api.Term{nil, {row}, {row, rows[(i+1)%len(rows)]}} {
					// Of a matrix with 2^63 - 1 columns, the transpose is beyond the limits.
					if s := (api.Sparse{Rows: m, Cols: n, L: l}); n < 1<<62 || !sparse.Valid(s) {
						list = append(list, s)
					}
				}
			}
		}
	}
	for i, a := range list {
		for k := range 60 {
			x := arguments{a: a, b: list[(i+k*k)%len(list)], m: mats[k%5], v: vectors[k%4], rows: [2][]api.Term{rows[k%11], rows[k/5%11]}, factor: number(int64(k % 3)), i: k%4 - 1}
			o := results(x)
			if !equal(o, results(x)) {
				t.Errorf("other results at the second call: %+v", x)
			}
			for n, s := range o.lists[:7] {
				if o.errs[n] != api.OK && !isZero(s) {
					t.Errorf("%+v: %+v, %v", x, s, o.errs[n])
				}
			}
			if err := o.errs[len(o.errs)-1]; err != api.OK && len(o.m.A[len(o.m.A)-1]) != 0 {
				t.Errorf("Times: %+v: %+v, %v", x, o.m, err)
			}
		}
	}
}
