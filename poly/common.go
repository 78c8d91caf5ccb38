package poly

import (
	"voltaic/frac"
	"voltaic/solve"
)

// Plain is x times the fraction above 0 that makes its numbers whole, without a common divisor.
func (x P) Plain() P {
	var shared frac.F
	for _, number := range x {
		shared = shared.Common(number)
	}
	return x.each(func(number frac.F) frac.F { return number.Over(shared) })
}

// Common is the greatest common divisor, plain; of 0 and y it is y, plain.
//
// It is the heuristic way of Char, Geddes and Gonnet: the values of both at a great power of ten have a common divisor, too, whose digits there are the numbers of one of polynomials. If that divides both, it is the greatest one, if the power is above twice the numbers of one of both; and it does, as soon as the power is great enough. So numbers don't grow as they do in Euclid's way.
func Common(x, y P) P {
	if x.IsZero() || y.IsZero() {
		return x.Plus(y).Plain()
	}
	x, y = x.Plain(), y.Plain()
	if mostShared(x, y) == 0 {
		return one()
	}
	f := solve.Fractions()
	// A digit is more than three bits; some more of them, and what x and y seem to share by chance is no harm.
	for digits := min(x.mostBits(), y.mostBits())/3 + 10; ; digits *= 2 {
		base := frac.Ten(digits)
		shared := byDigits(Value(f, x, base).Common(Value(f, y, base)), base).Plain()
		if x.isTimes(shared) && y.isTimes(shared) {
			return shared
		}
	}
}

// one is the polynomial 1.
func one() P { return P{frac.Of("1")} }

// mostBits is how long the longest of x's numbers is.
func (x P) mostBits() int {
	most := 0
	for _, number := range x {
		most = max(most, number.Bits())
	}
	return most
}

// byDigits is the polynomial of which a whole number is the value at base; its numbers are at most half of that, to either side.
func byDigits(value, base frac.F) P {
	var out P
	for !value.IsZero() {
		var digit frac.F
		value, digit = value.Parted(base)
		out = append(out, digit)
	}
	return out
}

// isTimes tells whether y, which isn't 0, goes into x.
func (x P) isTimes(y P) bool {
	_, rest := x.Parted(y)
	return rest.IsZero()
}
