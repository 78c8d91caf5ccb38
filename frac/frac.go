// Package frac has fractions of any length, and api.Q as texts of them: see DOC.md, 'Numbers'.
package frac

import (
	"strings"

	"voltaic/api"
)

// F is a fraction in lowest terms; the zero value is 0. What its words are is never changed.
type F struct {
	below bool // below 0
	up    nat
	down  nat // no words: 1, so that the zero value is a fraction
}

// Of reads a fraction; what is none counts as 0.
func Of(q api.Q) F {
	digits, below := strings.CutPrefix(string(q), "-")
	up, down, barred := strings.Cut(digits, "/")
	if !barred {
		down = "1"
	}
	if !isDigits(up) || !isDigits(down) {
		return F{}
	}
	return lowest(below, readNat(up), readNat(down))
}

func isDigits(text string) bool { return text != "" && DigitsEnd(text, 0) == len(text) }

// DigitsEnd is where the digits end that stand in text from a place on: that place itself, if there are none.
func DigitsEnd(text string, from int) int {
	for from < len(text) && '0' <= text[from] && text[from] <= '9' {
		from++
	}
	return from
}

// lowest is up over down; what is divided by 0 counts as 0.
func lowest(below bool, up, down nat) F {
	if len(up) == 0 || len(down) == 0 {
		return F{}
	}
	// What goes up without a rest, as it often does where equations are solved, needs no divisor looked for.
	whole, rest := divide(up, down)
	if len(rest) == 0 {
		return F{below, whole, nil}
	}
	common := commonDivisor(down, rest)
	return F{below, over(up, common), over(down, common)}
}

// barred is up over down, which have no common divisor.
func barred(below bool, up, down nat) F {
	if len(up) == 0 {
		return F{}
	}
	if isOne(down) {
		down = nil
	}
	return F{below, up, down}
}

func (x F) isWhole() bool { return len(x.down) == 0 }

// Ten is ten to the power of n.
func Ten(n int) F {
	if n < 0 {
		return F{up: nat{1}, down: power(10, -n)}
	}
	return F{up: power(10, n)}
}

// bar is what stands below the bar.
func (x F) bar() nat {
	if len(x.down) == 0 {
		return nat{1}
	}
	return x.down
}

// Bar is what stands below the bar, as a fraction: x times it is whole.
func (x F) Bar() F { return F{up: x.bar()} }

// Q tells a fraction as a text.
func (x F) Q() api.Q {
	text := x.up.text()
	if x.below {
		text = "-" + text
	}
	if len(x.down) > 0 {
		text += "/" + x.down.text()
	}
	return api.Q(text)
}

// Sign is -1, 0 or 1, as x is below 0, 0, or above it.
func (x F) Sign() int {
	if x.below {
		return -1
	}
	return sign(len(x.up))
}

// IsZero tells whether x is 0.
func (x F) IsZero() bool { return len(x.up) == 0 }

// Bits is how long x is: of no number but 0 it is less than of 1.
func (x F) Bits() int { return x.up.bits() + x.down.bits() }

// Abs is x without its sign.
func (x F) Abs() F {
	x.below = false
	return x
}

// Opposite is x with the other sign.
func (x F) Opposite() F {
	x.below = !x.below && !x.IsZero()
	return x
}

// Plus is the sum. Divisors are looked for in the bars, which are shorter than what comes of them: of the new bar, the sum shares only what the two bars share (Knuth).
func (x F) Plus(y F) F {
	if x.isWhole() && y.isWhole() {
		below, up := sum(x.below, x.up, y.below, y.up)
		return F{below, up, nil}
	}
	shared := commonDivisor(x.bar(), y.bar())
	xRest, yRest := over(x.bar(), shared), over(y.bar(), shared)
	below, up := sum(x.below, times(x.up, yRest), y.below, times(y.up, xRest))
	again := commonDivisor(up, shared)
	return barred(below, over(up, again), times(xRest, over(y.bar(), again)))
}

// sum adds two whole numbers with signs; of 0 it isn't below 0.
func sum(xBelow bool, x nat, yBelow bool, y nat) (below bool, out nat) {
	if xBelow == yBelow {
		return xBelow, plus(x, y)
	}
	if compare(x, y) < 0 {
		return yBelow, minus(y, x)
	}
	out = minus(x, y)
	return xBelow && len(out) > 0, out
}

// Minus is the difference.
func (x F) Minus(y F) F { return x.Plus(y.Opposite()) }

// Times is the product. What is above one bar and what is below the other are shorter than what comes of them: divisors are looked for there.
func (x F) Times(y F) F {
	below := x.below != y.below
	if x.isWhole() && y.isWhole() {
		return barred(below, times(x.up, y.up), nat{1})
	}
	first, second := commonDivisor(x.up, y.bar()), commonDivisor(y.up, x.bar())
	up := times(over(x.up, first), over(y.up, second))
	return barred(below, up, times(over(x.bar(), second), over(y.bar(), first)))
}

// Over is x divided by y; what is divided by 0 counts as 0.
func (x F) Over(y F) F {
	if x.isWhole() && y.isWhole() {
		return lowest(x.below != y.below, x.up, y.up)
	}
	if y.IsZero() {
		return F{}
	}
	return x.Times(barred(y.below, y.bar(), y.up))
}

// Compare answers -1, 0 or 1, as x is below y, the same, or above it.
func (x F) Compare(y F) int {
	if x.Sign() != y.Sign() {
		return sign(x.Sign() - y.Sign())
	}
	return x.Sign() * compare(times(x.up, y.bar()), times(y.up, x.bar()))
}

// Decimal tells x without its sign as a decimal without needless noughts, if it ends and has at most so many bytes.
func (x F) Decimal(most int) (string, bool) {
	bar := x.bar()
	if !dividesTens(bar) {
		return "", false
	}
	whole, rest := divide(x.up, bar)
	out := []byte(whole.text())
	if len(rest) > 0 {
		out = append(out, '.')
	}
	for len(rest) > 0 && len(out) < most {
		var digit nat
		digit, rest = divide(grow(rest, 10, 0), bar)
		out = append(out, digit.text()...)
	}
	if len(rest) > 0 || len(out) > most {
		return "", false
	}
	return string(out), true
}
