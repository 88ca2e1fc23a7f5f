package modular_test

import (
	"math/big"
	"testing"

	"torsion/api"
	"torsion/integer"
	"torsion/modular"
)

// P3.4: reduction preserves sums and products, and inverts Symmetric.

func TestReductionPreservesOperations(t *testing.T) {
	s := source(9)
	for _, p := range primes() {
		list := integers(p, s)
		for range 300 {
			a, b := whole(list[s.IntN(len(list))]), whole(list[s.IntN(len(list))])
			x, y := modular.Reduce(p, a), modular.Reduce(p, b)
			if modular.Reduce(p, integer.Add(a, b)) != modular.Add(p, x, y) {
				t.Errorf("sum modulo %d of %s and %s", p, integer.Text(a), integer.Text(b))
			}
			if modular.Reduce(p, integer.Sub(a, b)) != modular.Sub(p, x, y) {
				t.Errorf("difference modulo %d of %s and %s", p, integer.Text(a), integer.Text(b))
			}
			if modular.Reduce(p, integer.Mul(a, b)) != modular.Mul(p, x, y) {
				t.Errorf("product modulo %d of %s and %s", p, integer.Text(a), integer.Text(b))
			}
		}
	}
	for _, p := range primes() {
		if modular.Reduce(p, integer.Of(0)) != 0 || modular.Reduce(p, integer.Of(1)) != 1 {
			t.Errorf("0 or 1 modulo %d", p)
		}
	}
}

// inRange reports whether 2 n is greater than -p and at most p.
func inRange(n api.Int, p uint64) bool {
	twice, bound := integer.Add(n, n), whole(natural(p))
	return integer.Cmp(twice, integer.Neg(bound)) > 0 && integer.Cmp(twice, bound) <= 0
}

func TestReduceInvertsSymmetric(t *testing.T) {
	pairs(func(p, a, _ uint64) {
		n := modular.Symmetric(p, a)
		if !inRange(n, p) || modular.Reduce(p, n) != a {
			t.Errorf("Symmetric(%d, %d) = %+v", p, a, n)
		}
	})
	for p := modular.Next(0); p < 200; p = modular.Next(p) {
		for n := -int64(p-1) / 2; n <= int64(p/2); n++ {
			if a := modular.Reduce(p, integer.Of(n)); !same(modular.Symmetric(p, a), whole(big.NewInt(n))) {
				t.Errorf("Symmetric of Reduce of %d modulo %d", n, p)
			}
		}
	}
}
