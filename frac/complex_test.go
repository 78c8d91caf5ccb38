package frac

import (
	"math/big"
	"math/rand"
	"testing"

	"voltaic/api"
)

func z(re, im api.Q) Z { return Z{Of(re), Of(im)} }

func wantZ(t *testing.T, what string, got Z, re, im api.Q) {
	t.Helper()
	if got.Z() != (api.Z{Re: re, Im: im}) {
		t.Errorf("%s: %v, want %s, %s", what, got.Z(), re, im)
	}
}

func TestComplexFractions(t *testing.T) {
	x, y := z("1/2", "-3"), z("2", "1/3")
	wantZ(t, "plus", x.Plus(y), "5/2", "-8/3")
	wantZ(t, "minus", x.Minus(y), "-3/2", "-10/3")
	wantZ(t, "times", x.Times(y), "2", "-35/6")
	wantZ(t, "over", x.Times(y).Over(y), "1/2", "-3")
	wantZ(t, "over a fraction", x.Over(z("-1/3", "0")), "-3/2", "9")
	wantZ(t, "over i", x.Over(z("0", "1")), "-3", "-1/2")
	wantZ(t, "over 0", x.Over(Z{}), "0", "0")
	wantZ(t, "mirrored", x.Mirrored(), "1/2", "3")
	wantZ(t, "0 mirrored", Z{}.Mirrored(), "0", "0")
	if !(Z{}).IsZero() || x.IsZero() || z("1", "0").IsZero() || z("0", "1").IsZero() || !x.Minus(x).IsZero() {
		t.Error("what is 0, and what isn't?")
	}
}

func TestBarsOfComplexFractions(t *testing.T) {
	for _, c := range []struct{ re, im, want api.Q }{
		{"0", "0", "1"}, {"5", "-7", "1"}, {"1/4", "0", "4"}, {"0", "-2/3", "3"}, {"1/4", "5/6", "12"}, {"-1/6", "1/6", "6"},
	} {
		wantZ(t, "bar", z(c.re, c.im).Bar(), c.want, "0")
	}
}

// What is reckoned with most is longest: but for 0 nothing is shorter than 1 is.
func TestBitsOfComplexFractions(t *testing.T) {
	for _, c := range []struct {
		re, im api.Q
		want   int
	}{{"0", "0", 0}, {"1", "0", 1}, {"-1", "0", 1}, {"0", "1", 1}, {"1", "-1", 2}, {"3", "1/2", 5}} {
		if got := z(c.re, c.im).Bits(); got != c.want {
			t.Errorf("%s, %s: %d bits, want %d", c.re, c.im, got, c.want)
		}
	}
}

func TestComplexFractionsAgainstAnotherReckoner(t *testing.T) {
	r := rand.New(rand.NewSource(1))
	for range 2000 {
		a, aRat := someFraction(r)
		b, bRat := someFraction(r)
		c, cRat := someFraction(r)
		d, dRat := someFraction(r)
		x, y := Z{a, b}, Z{c, d}
		product := func(l, m *big.Rat) *big.Rat { return new(big.Rat).Mul(l, m) }
		re := new(big.Rat).Sub(product(aRat, cRat), product(bRat, dRat))
		im := new(big.Rat).Add(product(aRat, dRat), product(bRat, cRat))
		wantZ(t, "times", x.Times(y), api.Q(re.RatString()), api.Q(im.RatString()))
		if !y.IsZero() && x.Times(y).Over(y).Z() != x.Z() {
			t.Fatalf("%v times and over %v", x.Z(), y.Z())
		}
		if bar := x.Bar(); !x.Times(bar).Re.isWhole() || !x.Times(bar).Im.isWhole() || bar.IsZero() {
			t.Fatalf("%v times %v isn't whole", x.Z(), bar.Z())
		}
	}
}
