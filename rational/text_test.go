package rational_test

import (
	"testing"

	"torsion/rational"
)

// P2.6, and P2.1 for B5: texts.

func TestText(t *testing.T) {
	for _, x := range samples() {
		if text := rational.Text(rat(x)); text != x.RatString() {
			t.Errorf("Text(%v) = %q", x, text)
		}
	}
	for _, x := range []struct {
		n, d int64
		text string
	}{{-3, 2, "-3/2"}, {5, 1, "5"}, {-5, 1, "-5"}, {0, 1, "0"}, {1, 10, "1/10"}, {10, 1, "10"}} {
		if text := rational.Text(quotient(x.n, x.d)); text != x.text {
			t.Errorf("%d/%d: %q", x.n, x.d, text)
		}
	}
}

func TestDifferentNumbersHaveDifferentTexts(t *testing.T) {
	numbers := map[string]string{}
	for _, x := range samples() {
		text := rational.Text(rat(x))
		if other, ok := numbers[text]; ok && other != x.String() {
			t.Errorf("%s and %v have the text %q", other, x, text)
		}
		numbers[text] = x.String()
	}
}
