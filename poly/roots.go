package poly

import "voltaic/frac"

// Jumps tells how much more often y over x jumps up, from below all bounds to above them, than down, as s goes through all fractions and what is between (Cauchy's index), and the greatest common divisor of both, plain. x isn't 0.
//
// It is Sturm's way: Euclid's, with the other sign of each rest. Neighbours in it tell a jump if their degrees differ by an odd number, so that their signs are the same at one end only.
func Jumps(x, y P) (up int, shared P) {
	x, y = x.Plain(), y.Plain()
	for !y.IsZero() {
		if (len(x)-len(y))%2 != 0 {
			up += x.Last().Sign() * y.Last().Sign()
		}
		x, y = y, x.left(y).Opposite().Plain()
	}
	return up, x
}

// left is what is left over when x is divided by y, which isn't 0, but for a number above 0: whole, if both are, so that no divisors are looked for on the way.
func (x P) left(y P) P {
	last := y.Last()
	for len(x) >= len(y) {
		by := x.Last()
		if last.Sign() < 0 {
			by = by.Opposite()
		}
		x = x.Scaled(last.Abs()).Minus(y.Scaled(by).Raised(len(x) - len(y)))
	}
	return x
}

// Raised is x, which isn't 0, times a power of s.
func (x P) Raised(power int) P { return append(make(P, power), x...) }

// RealRoots counts the real roots of x, which isn't 0: each as often as it is one.
func RealRoots(x P) int {
	count := 0
	// At each root, however often it is one, the slope over x jumps up once; what they share has it once less.
	for len(x) > 1 {
		var apart int
		apart, x = Jumps(x, x.slope())
		count += apart
	}
	return count
}

// slope is how much x grows at each place, over how much s does.
func (x P) slope() P {
	return Filled(len(x)-1, func(power int) frac.F {
		return x[power+1].Times(frac.OfWord(uint32(power + 1)))
	})
}
