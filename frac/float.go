package frac

import "math"

const (
	floatBits   = 53    // as many as a float has, from its first one on
	floatLowest = -1074 // the power of two of the least float above 0: no float has a bit below it
)

// OfFloat is exactly the fraction that a float is; what is infinite or no number counts as 0.
func OfFloat(x float64) F {
	if math.IsInf(x, 0) || math.IsNaN(x) {
		return F{}
	}
	part, exponent := math.Frexp(math.Abs(x))
	digits := uint64(math.Ldexp(part, floatBits))
	exponent -= floatBits
	up := trim(nat{uint32(digits), uint32(digits >> wordBits)})
	return lowest(x < 0, shifted(up, max(exponent, 0)), shifted(nat{1}, max(-exponent, 0)))
}

// Nearest is the nearest float: of two as near the one whose last bit is 0; what is too great is infinite. As of other floats, what is below 0 keeps its sign, even where it is too near to 0 for any other float.
func (x F) Nearest() float64 {
	// Of two numbers' bits, how many their quotient has is known but for one.
	last := max(x.up.bits()-x.bar().bits()-floatBits, floatLowest)
	whole, half := x.scaled(last)
	if whole.bits() > floatBits {
		last++
		whole, half = x.scaled(last)
	}
	digits := whole.bitsFrom(0)
	if half > 0 || half == 0 && digits&1 == 1 {
		digits++
	}
	out := math.Ldexp(float64(digits), last)
	if x.below {
		return -out
	}
	return out
}

// scaled is what x, without its sign, has from that bit on, and -1, 0 or 1, as what it has below is less than half of that bit, just half, or more.
func (x F) scaled(bit int) (whole nat, half int) {
	bar := shifted(x.bar(), max(bit, 0))
	whole, rest := divide(shifted(x.up, max(-bit, 0)), bar)
	return whole, compare(shifted(rest, 1), bar)
}
