package integer_test

import (
	"math/big"
	"strings"
	"testing"

	"torsion/api"
	"torsion/integer"
)

// P1.6, and P1.1 for A7: decimal notation.

func TestText(t *testing.T) {
	for _, x := range samples(3000) {
		if s := integer.Text(fromBig(x)); s != x.String() {
			t.Errorf("Text of %v: %q", x, s)
		}
	}
	huge := new(big.Int).Exp(big.NewInt(-7), big.NewInt(9999), nil)
	if integer.Text(fromBig(huge)) != huge.String() {
		t.Error("Text of an integer with more digits than Read takes")
	}
}

func TestReadInvertsText(t *testing.T) {
	for _, x := range samples(3000) {
		a, err := integer.Read(integer.Text(fromBig(x)))
		if err != api.OK {
			t.Errorf("Read of %v: %v", x, err)
		}
		expect(t, a, x, "Read", x)
	}
}

func TestReadForAllNumbersOfDigits(t *testing.T) {
	for n := 1; n <= 60; n++ {
		for _, s := range []string{strings.Repeat("9", n), "1" + strings.Repeat("0", n-1), "-" + strings.Repeat("9", n), "-8" + strings.Repeat("07", n/2)} {
			a, err := integer.Read(s)
			if err != api.OK || !same(a, parse(s)) || integer.Text(a) != s {
				t.Errorf("Read(%q) = %+v, %v", s, a, err)
			}
		}
	}
}

func TestReadRefusesOtherNotations(t *testing.T) {
	list := []string{"", "-", "--", "-0", "00", "-00", "007", "-07", "0000000000", "+1", "+0", "1 ", " 1", "\t1", "1\n", "1a", "a", "--1", "1-", "1-2", "- 1", "1.0", "1e3", "0x10", "1_000", "1,000", "12345678901234567890x", "x12345678901234567890", "\x00", "1\x00", "\xff", "\u0661", "\uff11", "\u22121", "1/", "1:", "/1", ":1", "0-", "01", "-01"}
	for _, s := range list {
		if a, err := integer.Read(s); err != api.ErrForm || !isZero(a) {
			t.Errorf("Read(%q) = %+v, %v", s, a, err)
		}
	}
}

// Whatever Read accepts is what Text returns: every string of up to three of these bytes is read or refused accordingly.
func TestReadAcceptsOnlyWhatTextReturns(t *testing.T) {
	const alphabet = "-+0129 /:a"
	texts := []string{""}
	for range 3 {
		for _, s := range texts {
			for _, r := range alphabet {
				texts = append(texts, s+string(r))
			}
		}
	}
	for _, s := range texts {
		n, ok := new(big.Int).SetString(s, 10)
		plain := ok && n.String() == s
		a, err := integer.Read(s)
		if plain && (err != api.OK || !same(a, fromBig(n))) || !plain && (err != api.ErrForm || !isZero(a)) {
			t.Errorf("Read(%q) = %+v, %v", s, a, err)
		}
	}
}

func TestReadOfLongTexts(t *testing.T) {
	for _, s := range []string{strings.Repeat("9", 1999), strings.Repeat("9", 2000), "-" + strings.Repeat("9", 1999), "1" + strings.Repeat("0", 1999)} {
		a, err := integer.Read(s)
		if err != api.OK || !same(a, parse(s)) || integer.Text(a) != s {
			t.Errorf("%d bytes: %v", len(s), err)
		}
	}
	for _, s := range []string{strings.Repeat("0", 2000), "-" + strings.Repeat("9", 1998) + "x", "-" + strings.Repeat("0", 1999)} {
		if a, err := integer.Read(s); err != api.ErrForm || !isZero(a) {
			t.Errorf("%d bytes of another notation: %v", len(s), err)
		}
	}
	// The number of bytes is checked ahead of the notation.
	for _, s := range []string{strings.Repeat("9", 2001), "-" + strings.Repeat("9", 2000), strings.Repeat("x", 2001), strings.Repeat("0", 2001), strings.Repeat("1", 100000)} {
		if a, err := integer.Read(s); err != api.ErrBig || !isZero(a) {
			t.Errorf("%d bytes: %v", len(s), err)
		}
	}
}
