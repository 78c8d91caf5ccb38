package poly

import "voltaic/frac"

// NeverBelow tells whether x is below 0 for no s from 0 on: far out it isn't, and nowhere does it change its sign.
func NeverBelow(x P) bool {
	// Where s is above 0, a power of it changes nothing.
	for len(x) > 0 && x[0].IsZero() {
		x = x[1:]
	}
	return x.IsZero() || x.Last().Sign() > 0 && isAbove(changing(x))
}

// changing has, once each, those roots of x that come an odd number of times, where it changes its sign. It is plain, and its last number is above 0, if x's is.
func changing(x P) P {
	out := one()
	for len(x) > 1 {
		more := Common(x, x.slope())        // has each root once less
		again := Common(more, more.slope()) // and this twice
		once := x.Without(more).Without(more.Without(again))
		out = out.Times(once)
		x = again
	}
	return out.Plain()
}

// fewDigits are as many as most often tell whether a polynomial is above 0.
const fewDigits = 50

// isAbove tells whether x, plain, is above 0 for each s from 0 on.
//
// Where s isn't below 0, what has greater numbers is greater: so a few digits of long numbers tell it, if that is above 0 which has less, or that isn't which has more.
func isAbove(x P) bool {
	digits := x.mostBits() * 3 / 10 // ten bits are three digits, and a little more
	for kept := fewDigits; 2*kept < digits; kept *= 2 {
		base := frac.Ten(digits - kept)
		short := func(more frac.F) P {
			return x.each(func(number frac.F) frac.F {
				often, _ := number.Parted(base)
				return often.Plus(more)
			})
		}
		if isAboveByJumps(short(frac.Of("-1"))) {
			return true
		}
		if !isAboveByJumps(short(frac.Of("1"))) {
			return false
		}
	}
	return isAboveByJumps(x)
}

// isAboveByJumps tells the same by counting roots: x at the square of a real number has none.
func isAboveByJumps(x P) bool {
	if x.Last().Sign() <= 0 {
		return false
	}
	squared := Filled(2*len(x)-1, func(power int) frac.F {
		if power%2 == 1 {
			return frac.F{}
		}
		return x[power/2]
	})
	roots, _ := Jumps(squared, squared.slope())
	return roots == 0
}
