package poly

import (
	"slices"

	"voltaic/frac"
)

// prime is the greatest one that a word of 32 bits holds. Where whole numbers are counted up to it only, all numbers are short, and what divides a polynomial divides it there, too: so much that isn't can be told quickly.
const prime = 1<<32 - 5

// short is a polynomial whose numbers are counted so; the last one isn't 0.
type short []uint32

// inShort answers false if what is below the bar of one of x's numbers is 0 there, or the last number is.
func (x P) inShort() (short, bool) {
	out := make(short, len(x))
	for i, number := range x {
		left, ok := number.Left(prime)
		if !ok {
			return nil, false
		}
		out[i] = left
	}
	return out, len(out) == 0 || out[len(out)-1] != 0
}

// rest is what is left of x when it is divided by y, which has a number.
func (x short) rest(y short) short {
	out := slices.Clone(x)
	turned := uint64(frac.Turned(y[len(y)-1], prime))
	for len(out) >= len(y) {
		// What is taken away is added with the other sign, so that nothing is below 0.
		by := prime - uint64(out[len(out)-1])*turned%prime
		from := out[len(out)-len(y):]
		for i, number := range y {
			from[i] = uint32((uint64(from[i]) + by*uint64(number)%prime) % prime)
		}
		for len(out) > 0 && out[len(out)-1] == 0 {
			out = out[:len(out)-1]
		}
	}
	return out
}

// mostShared is a degree above which x and y, which aren't 0, have no common divisor.
func mostShared(x, y P) int {
	most := min(len(x), len(y)) - 1
	if most == 0 {
		return 0
	}
	a, aKnown := x.inShort()
	b, bKnown := y.inShort()
	if !aKnown || !bKnown {
		return most
	}
	for len(b) > 0 {
		a, b = b, a.rest(b)
	}
	return len(a) - 1
}

// mayGoInto answers false if y, which isn't 0, surely doesn't go into x without a rest.
func mayGoInto(y, x P) bool {
	if len(x) < len(y) {
		return x.IsZero()
	}
	a, aKnown := x.inShort()
	b, bKnown := y.inShort()
	return !aKnown || !bKnown || len(a.rest(b)) == 0
}
