package frac

// OfWord is a whole number that a word holds.
func OfWord(w uint32) F { return F{up: word(w)} }

// Common is the greatest fraction of which x and y are whole multiples; of 0 and y it is y without its sign.
func (x F) Common(y F) F {
	shared := commonDivisor(x.bar(), y.bar())
	return barred(false, commonDivisor(x.up, y.up), times(x.bar(), over(y.bar(), shared)))
}

// Parted tells of whole numbers how often y, which is above 0, goes into x, and what is left over: as near to 0 as can be.
func (x F) Parted(y F) (often, rest F) {
	count, left := divide(x.up, y.up)
	below := x.below
	if compare(plus(left, left), y.up) > 0 {
		count, left, below = plus(count, nat{1}), minus(y.up, left), !below
	}
	return barred(x.below, count, nat{1}), barred(below, left, nat{1})
}

// Left is what is left of x when whole numbers are counted up to a prime only, which then is 0 again; false if what is below the bar is 0 there.
func (x F) Left(prime uint32) (uint32, bool) {
	down := x.bar().left(prime)
	if down == 0 {
		return 0, false
	}
	up := x.up.left(prime)
	if x.below && up > 0 {
		up = prime - up
	}
	return uint32(uint64(up) * uint64(Turned(down, prime)) % uint64(prime)), true
}

// Turned is the number that makes 1 of x, which isn't 0, where whole numbers are counted up to a prime only: x to the power of two less than that (Fermat).
func Turned(x, prime uint32) uint32 {
	out, square := uint64(1), uint64(x)
	for n := prime - 2; n > 0; n /= 2 {
		if n%2 == 1 {
			out = out * square % uint64(prime)
		}
		square = square * square % uint64(prime)
	}
	return uint32(out)
}
