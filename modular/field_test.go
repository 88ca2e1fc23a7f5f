package modular_test

import (
	"testing"

	"torsion/api"
	"torsion/modular"
)

// P3.3: the axioms of a field, and powers with the exponent p - 1.

func TestAxiomsOfAField(t *testing.T) {
	s := source(6)
	for _, p := range primes() {
		list := elements(p, s)
		for _, a := range list {
			for _, b := range list {
				for _, c := range list {
					checkAxioms(t, p, a, b, c)
				}
			}
		}
	}
}

func checkAxioms(t *testing.T, p, a, b, c uint64) {
	add := func(a, b uint64) uint64 { return modular.Add(p, a, b) }
	sub := func(a, b uint64) uint64 { return modular.Sub(p, a, b) }
	mul := func(a, b uint64) uint64 { return modular.Mul(p, a, b) }
	for _, x := range []struct {
		name        string
		left, right uint64
	}{
		{"associative sums", add(add(a, b), c), add(a, add(b, c))},
		{"commutative sums", add(a, b), add(b, a)},
		{"zero", add(a, 0), a},
		{"opposite", add(a, sub(0, a)), 0},
		{"difference", add(sub(a, b), b), a},
		{"associative products", mul(mul(a, b), c), mul(a, mul(b, c))},
		{"commutative products", mul(a, b), mul(b, a)},
		{"one", mul(a, 1), a},
		{"distributive", mul(a, add(b, c)), add(mul(a, b), mul(a, c))},
	} {
		if x.left != x.right || x.left >= p {
			t.Errorf("%s modulo %d: %d, %d, %d", x.name, p, a, b, c)
		}
	}
}

// checkInverse fails unless Inv inverts a modulo p, or says that a is 0.
func checkInverse(t *testing.T, p, a uint64) {
	b, err := modular.Inv(p, a)
	switch {
	case a == 0 && (b != 0 || err != api.ErrInverse):
		t.Errorf("Inv(%d, 0) = %d, %v", p, b, err)
	case a != 0 && (b < 1 || b >= p || err != api.OK || modular.Mul(p, a, b) != 1):
		t.Errorf("Inv(%d, %d) = %d, %v", p, a, b, err)
	}
}

// checkFermat fails unless the power of a with the exponent p - 1 is 1, or a is 0.
func checkFermat(t *testing.T, p, a uint64) {
	want := uint64(1)
	if a == 0 {
		want = 0
	}
	if power := modular.Pow(p, a, p-1); power != want {
		t.Errorf("Pow(%d, %d, %d) = %d", p, a, p-1, power)
	}
}

func TestInversesAndPowers(t *testing.T) {
	for p := modular.Next(0); p < 400; p = modular.Next(p) {
		for a := range p {
			checkInverse(t, p, a)
			checkFermat(t, p, a)
		}
	}
	s := source(7)
	for _, p := range primes() {
		for range 100 {
			a := s.Uint64N(p)
			checkInverse(t, p, a)
			checkFermat(t, p, a)
		}
	}
}

func TestSumsOfExponents(t *testing.T) {
	s := source(8)
	pairs(func(p, a, _ uint64) {
		m, n := s.Uint64N(1<<63), s.Uint64N(1<<63)
		if modular.Mul(p, modular.Pow(p, a, m), modular.Pow(p, a, n)) != modular.Pow(p, a, m+n) {
			t.Errorf("powers of %d modulo %d with the exponents %d and %d", a, p, m, n)
		}
	})
}
