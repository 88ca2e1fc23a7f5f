package crt_test

import (
	"math/big"
	"testing"

	"torsion/api"
	"torsion/crt"
)

// P4.1: the examples of D1 to D4, and all lists for a few small primes.

func TestProduct(t *testing.T) {
	for _, l := range [][]api.Residue{
		nil, {}, list(7, 3), list(3, 0, 5, 0), list(2, 1, 3, 1, 5, 1),
		list(4, 1, 9, 2, 4, 7), list(1, 0, 1, 0), list(0, 0), list(5, 1, 0, 3, 7, 2), list(3, 3), // not valid
		list(1<<32-1, 0), list(1<<32, 0), list(1<<63-1, 0), list(1<<63, 0), list(1<<64-1, 0), list(1<<64-1, 0, 1<<64-1, 0, 1<<63, 1),
	} {
		if p := crt.Product(l); !same(p, whole(modulus(l))) {
			t.Errorf("Product(%v) = %+v, not %v", l, p, modulus(l))
		}
	}
	for _, primes := range primeLists() {
		l := residues(big.NewInt(-1), primes)
		if p := crt.Product(l); !same(p, whole(modulus(l))) {
			t.Errorf("Product(%v) = %+v, not %v", l, p, modulus(l))
		}
	}
	s := source(3)
	for range 300 {
		l := make([]api.Residue, s.IntN(12))
		for i := range l {
			l[i] = api.Residue{P: s.Uint64() >> s.IntN(64), V: s.Uint64()}
		}
		if p := crt.Product(l); !same(p, whole(modulus(l))) {
			t.Errorf("Product(%v) = %+v, not %v", l, p, modulus(l))
		}
	}
}

func TestExamplesOfCombine(t *testing.T) {
	for _, x := range []struct {
		l    []api.Residue
		want int64
	}{
		{list(3, 2, 5, 3), -7}, {list(2, 1), 1}, {list(2, 0), 0}, {nil, 0}, {[]api.Residue{}, 0},
		{list(3, 1), 1}, {list(3, 2), -1}, {list(2, 1, 3, 0), 3}, {list(2, 0, 3, 1), -2}, {list(7, 4), -3}, {list(7, 3), 3}, {list(mersenne, 1<<30), 1 - 1<<30},
	} {
		a, err := crt.Combine(x.l)
		expect(t, x.l, a, err, big.NewInt(x.want))
	}
	for _, l := range [][]api.Residue{list(4, 1), list(3, 3), list(3, 1, 3, 1)} {
		if a, err := crt.Combine(l); err != api.ErrPrimes || !same(a, api.Int{}) {
			t.Errorf("Combine(%v) = %+v, %v", l, a, err)
		}
	}
}

// Modulo 2, 3 and 7 there are 42 lists, one for each integer from -20 to 21.
func TestAllListsOfSmallPrimes(t *testing.T) {
	for n := int64(-20); n <= 21; n++ {
		l := residues(big.NewInt(n), []uint64{2, 3, 7})
		a, err := crt.Combine(l)
		expect(t, l, a, err, big.NewInt(n))
		for other := int64(-130); other <= 130; other++ {
			if crt.Consistent(l, whole(big.NewInt(other))) != ((other-n)%42 == 0) {
				t.Errorf("Consistent(%v, %d) is wrong", l, other)
			}
		}
	}
}

func TestExamplesOfConsistent(t *testing.T) {
	for _, x := range []struct {
		l    []api.Residue
		a    int64
		want bool
	}{
		{list(3, 2), -7, true}, {list(3, 2), 7, false}, {list(3, 2), 2, true}, {list(3, 2), -1, true}, {list(3, 2, 5, 3), -7, true}, {list(3, 2, 5, 3), 8, true}, {list(3, 2, 5, 3), 2, false}, {list(3, 2, 5, 3), 3, false},
		{nil, 0, true}, {nil, -5, true}, {list(2, 0), 0, true}, {list(2, 1), 0, false},
		{list(4, 1), 1, false}, {list(3, 3), 3, false}, {list(3, 1, 3, 1), 1, false}, {list(5, 1, 9, 1), 1, false}, // not valid
	} {
		if crt.Consistent(x.l, whole(big.NewInt(x.a))) != x.want {
			t.Errorf("Consistent(%v, %d) is not %v", x.l, x.a, x.want)
		}
	}
}

func TestExamplesOfRational(t *testing.T) {
	for _, x := range []struct {
		a, m int64
		want *big.Rat
		err  api.Errno
	}{
		{67, 100, big.NewRat(1, 3), api.OK}, {-33, 100, big.NewRat(1, 3), api.OK}, {33, 100, big.NewRat(-1, 3), api.OK}, {7, 100, big.NewRat(7, 1), api.OK}, {93, 100, big.NewRat(-7, 1), api.OK},
		{50, 100, nil, api.ErrBound}, {8, 100, nil, api.ErrBound}, {0, 2, nil, api.ErrBound}, {1, 2, nil, api.ErrBound}, {3, 9, nil, api.ErrBound},
		{0, 3, new(big.Rat), api.OK}, {1, 3, big.NewRat(1, 1), api.OK}, {2, 3, big.NewRat(-1, 1), api.OK}, {0, 100, new(big.Rat), api.OK},
		{5, 1, nil, api.ErrArg}, {0, 1, nil, api.ErrArg}, {5, 0, nil, api.ErrArg}, {0, 0, nil, api.ErrArg}, {5, -1, nil, api.ErrArg}, {5, -7, nil, api.ErrArg}, {67, -100, nil, api.ErrArg},
	} {
		q, err := crt.Rational(whole(big.NewInt(x.a)), whole(big.NewInt(x.m)))
		want := api.Rat{}
		if x.err == api.OK {
			want = rat(x.want)
		}
		if err != x.err || !sameRat(q, want) {
			t.Errorf("Rational(%d, %d) = %+v, %v, not %v, %v", x.a, x.m, q, err, x.want, x.err)
		}
	}
}
