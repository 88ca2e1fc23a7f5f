package modular_test

import (
	"math/big"
	"testing"

	"torsion/api"
	"torsion/integer"
	"torsion/modular"
)

// P3.1 for C2 to C4.

func TestSumsDifferencesAndProducts(t *testing.T) {
	pairs(func(p, a, b uint64) {
		x, y := natural(a), natural(b)
		for _, c := range []struct {
			name string
			got  uint64
			want *big.Int
		}{
			{"Add", modular.Add(p, a, b), new(big.Int).Add(x, y)},
			{"Sub", modular.Sub(p, a, b), new(big.Int).Sub(x, y)},
			{"Mul", modular.Mul(p, a, b), new(big.Int).Mul(x, y)},
		} {
			if c.got != residue(c.want, p) {
				t.Errorf("%s(%d, %d, %d) = %d", c.name, p, a, b, c.got)
			}
		}
	})
}

func TestPow(t *testing.T) {
	s := source(4)
	pairs(func(p, a, b uint64) {
		for _, e := range []uint64{0, 1, 2, 3, b, p - 2, p - 1, p, 1<<32 - 1, 1 << 32, 1 << 63, 1<<64 - 2, 1<<64 - 1, s.Uint64()} {
			want := new(big.Int).Exp(natural(a), natural(e), natural(p)).Uint64()
			if power := modular.Pow(p, a, e); power != want {
				t.Errorf("Pow(%d, %d, %d) = %d, not %d", p, a, e, power, want)
			}
		}
	})
	if modular.Pow(2, 0, 0) != 1 || modular.Pow(7, 0, 0) != 1 || modular.Pow(mersenne, 0, 0) != 1 {
		t.Error("the power of 0 with the exponent 0 is not 1")
	}
}

func TestInv(t *testing.T) {
	pairs(func(p, a, _ uint64) {
		b, err := modular.Inv(p, a)
		if a == 0 {
			if b != 0 || err != api.ErrInverse {
				t.Errorf("Inv(%d, 0) = %d, %v", p, b, err)
			}
			return
		}
		if want := new(big.Int).ModInverse(natural(a), natural(p)).Uint64(); b != want || err != api.OK {
			t.Errorf("Inv(%d, %d) = %d, %v, not %d", p, a, b, err, want)
		}
	})
	if b, err := modular.Inv(7, 3); b != 5 || err != api.OK {
		t.Errorf("Inv(7, 3) = %d, %v", b, err)
	}
}

func TestReduce(t *testing.T) {
	s := source(5)
	for _, p := range primes() {
		for _, n := range integers(p, s) {
			if r := modular.Reduce(p, whole(n)); r != residue(n, p) {
				t.Errorf("Reduce(%d, %v) = %d", p, n, r)
			}
		}
	}
	if r := modular.Reduce(7, integer.Of(-1)); r != 6 {
		t.Errorf("Reduce of -1 modulo 7 is %d", r)
	}
}

// symmetric returns the integer with the remainder a by p that is greater than -p/2 and at most p/2.
func symmetric(p, a uint64) *big.Int {
	n := natural(a)
	if new(big.Int).Lsh(n, 1).Cmp(natural(p)) > 0 {
		n.Sub(n, natural(p))
	}
	return n
}

func TestSymmetric(t *testing.T) {
	pairs(func(p, a, _ uint64) {
		if n := modular.Symmetric(p, a); !same(n, whole(symmetric(p, a))) {
			t.Errorf("Symmetric(%d, %d) = %+v", p, a, n)
		}
	})
	for _, x := range []struct {
		p, a uint64
		want int64
	}{{7, 6, -1}, {7, 3, 3}, {7, 4, -3}, {7, 0, 0}, {2, 0, 0}, {2, 1, 1}, {3, 1, 1}, {3, 2, -1}, {mersenne, 1<<30 - 1, 1<<30 - 1}, {mersenne, 1 << 30, 1 - 1<<30}, {mersenne, mersenne - 1, -1}} {
		if n := modular.Symmetric(x.p, x.a); !same(n, whole(big.NewInt(x.want))) {
			t.Errorf("Symmetric(%d, %d) = %+v", x.p, x.a, n)
		}
	}
}
