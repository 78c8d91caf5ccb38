// Package poly has polynomials in s, fractions of them, and api.Ratio as texts of these: see DOC.md, 'Numbers'.
package poly

import (
	"slices"

	"voltaic/api"
	"voltaic/frac"
	"voltaic/solve"
)

// P is a polynomial: its numbers, from the constant one on, the last one not 0. So 0 has none. Its numbers are never changed.
type P []frac.F

// Of reads a polynomial; noughts at its end don't count.
func Of(l []api.Q) P {
	return Filled(len(l), func(power int) frac.F { return frac.Of(l[power]) })
}

// trim takes noughts off the end, so that one polynomial has one form.
func trim(p P) P {
	for len(p) > 0 && p[len(p)-1].IsZero() {
		p = p[:len(p)-1]
	}
	return p
}

// Q tells the numbers as texts.
func (x P) Q() []api.Q {
	var out []api.Q
	for _, number := range x {
		out = append(out, number.Q())
	}
	return out
}

// IsZero tells whether x is 0.
func (x P) IsZero() bool { return len(x) == 0 }

// Last is the number of the highest power; of 0 it is 0.
func (x P) Last() frac.F { return x.number(len(x) - 1) }

// number is the one of a power, 0 where x has none.
func (x P) number(power int) frac.F {
	if power < 0 || power >= len(x) {
		return frac.F{}
	}
	return x[power]
}

// Filled has for each power, as many as there are, what is told of it.
func Filled(powers int, of func(power int) frac.F) P {
	out := make(P, powers)
	for power := range out {
		out[power] = of(power)
	}
	return trim(out)
}

// each is x with something done to each of its numbers.
func (x P) each(do func(number frac.F) frac.F) P {
	return Filled(len(x), func(power int) frac.F { return do(x[power]) })
}

// Scaled is x times a fraction.
func (x P) Scaled(by frac.F) P { return x.each(by.Times) }

// Opposite is x with the other sign.
func (x P) Opposite() P { return x.each(frac.F.Opposite) }

// Plus is the sum.
func (x P) Plus(y P) P {
	return Filled(max(len(x), len(y)), func(power int) frac.F { return x.number(power).Plus(y.number(power)) })
}

// Minus is the difference.
func (x P) Minus(y P) P { return x.Plus(y.Opposite()) }

// bar is the least whole number that makes x's numbers whole, when they are multiplied by it.
func (x P) bar() frac.F {
	bar := frac.Of("1")
	for _, number := range x {
		bar = bar.Times(number.Times(bar).Bar())
	}
	return bar
}

// Times is the product. Both are made whole ahead of it, so that divisors of numbers are looked for once for each number of the product, not at each step.
func (x P) Times(y P) P {
	if x.IsZero() || y.IsZero() {
		return nil
	}
	xBar, yBar := x.bar(), y.bar()
	x, y = x.Scaled(xBar), y.Scaled(yBar)
	out := make(P, len(x)+len(y)-1)
	for i, a := range x {
		if a.IsZero() {
			continue
		}
		for k, b := range y {
			out[i+k] = out[i+k].Plus(a.Times(b))
		}
	}
	return out.each(func(number frac.F) frac.F { return number.Over(xBar.Times(yBar)) })
}

// Parted tells how often y, which isn't 0, goes into x, and what is left over, of fewer powers than y.
func (x P) Parted(y P) (often, rest P) {
	rest = slices.Clone(x)
	often = make(P, max(0, len(x)-len(y)+1))
	for i := len(often) - 1; i >= 0; i-- {
		often[i] = rest[i+len(y)-1].Over(y.Last())
		if often[i].IsZero() {
			continue
		}
		for k, number := range y {
			rest[i+k] = rest[i+k].Minus(often[i].Times(number))
		}
	}
	return often, trim(rest)
}

// Without is x divided by a divisor of it, which isn't 0.
func (x P) Without(divisor P) P {
	if len(divisor) == 1 {
		return x.Scaled(frac.Of("1").Over(divisor.Last()))
	}
	often, _ := x.Parted(divisor)
	return often
}

// Value is what x is at a place, which may be a number of another kind.
func Value[N any](f solve.Field[N], x P, place N) N {
	var out N
	for _, number := range slices.Backward(x) {
		out = f.Plus(f.Times(out, place), f.Of(number))
	}
	return out
}
