package frac

// Common is the greatest fraction of which x and y are whole multiples; of 0 and y it is y without its sign.
func (x F) Common(y F) F {
	shared := commonDivisor(x.bar(), y.bar())
	return barred(false, commonDivisor(x.up, y.up), times(x.bar(), over(y.bar(), shared)))
}

// Parted tells of whole numbers how often y, which is above 0, goes into x, and what is left over: as near to 0 as can be.
func (x F) Parted(y F) (often, rest F) {
	count, left := divide(x.up, y.up)
	below := x.below
	if compare(plus(left, left), y.up) > 0 {
		count, left, below = plus(count, nat{1}), minus(y.up, left), !below
	}
	return barred(x.below, count, nat{1}), barred(below, left, nat{1})
}
