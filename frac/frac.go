// Package frac has fractions of any length, and api.Q as texts of them: see DOC.md, 'Numbers'.
package frac

import (
	"strings"

	"voltaic/api"
)

// F is a fraction in lowest terms; the zero value is 0. What its words are is never changed.
type F struct {
	below bool // below 0
	up    nat
	down  nat // no words: 1, so that the zero value is a fraction
}

// Of reads a fraction; what is none counts as 0.
func Of(q api.Q) F {
	digits, below := strings.CutPrefix(string(q), "-")
	up, down, barred := strings.Cut(digits, "/")
	if !barred {
		down = "1"
	}
	if !isDigits(up) || !isDigits(down) {
		return F{}
	}
	return lowest(below, readNat(up), readNat(down))
}

func isDigits(text string) bool { return text != "" && DigitsEnd(text, 0) == len(text) }

// DigitsEnd is where the digits end that stand in text from a place on: that place itself, if there are none.
func DigitsEnd(text string, from int) int {
	for from < len(text) && '0' <= text[from] && text[from] <= '9' {
		from++
	}
	return from
}

// lowest is up over down; what is divided by 0 counts as 0.
func lowest(below bool, up, down nat) F {
	if len(up) == 0 || len(down) == 0 {
		return F{}
	}
	if common := commonDivisor(up, down); !isOne(common) {
		up, _ = divide(up, common)
		down, _ = divide(down, common)
	}
	if isOne(down) {
		down = nil
	}
	return F{below, up, down}
}

// Ten is ten to the power of n.
func Ten(n int) F {
	if n < 0 {
		return F{up: nat{1}, down: power(10, -n)}
	}
	return F{up: power(10, n)}
}

// bar is what stands below the bar.
func (x F) bar() nat {
	if len(x.down) == 0 {
		return nat{1}
	}
	return x.down
}

// Q tells a fraction as a text.
func (x F) Q() api.Q {
	text := x.up.text()
	if x.below {
		text = "-" + text
	}
	if len(x.down) > 0 {
		text += "/" + x.down.text()
	}
	return api.Q(text)
}

// Sign is -1, 0 or 1, as x is below 0, 0, or above it.
func (x F) Sign() int {
	if x.below {
		return -1
	}
	return sign(len(x.up))
}

// Abs is x without its sign.
func (x F) Abs() F {
	x.below = false
	return x
}

// Times is the product.
func (x F) Times(y F) F {
	return lowest(x.below != y.below, times(x.up, y.up), times(x.bar(), y.bar()))
}

// Compare answers -1, 0 or 1, as x is below y, the same, or above it.
func (x F) Compare(y F) int {
	if x.Sign() != y.Sign() {
		return sign(x.Sign() - y.Sign())
	}
	return x.Sign() * compare(times(x.up, y.bar()), times(y.up, x.bar()))
}

// Decimal tells x without its sign as a decimal without needless noughts, if it ends and has at most so many bytes.
func (x F) Decimal(most int) (string, bool) {
	bar := x.bar()
	whole, rest := divide(x.up, bar)
	out := []byte(whole.text())
	if len(rest) > 0 {
		out = append(out, '.')
	}
	// One that doesn't end is too long some time: nothing else need be known of what is below the bar.
	for len(rest) > 0 && len(out) < most {
		var digit nat
		digit, rest = divide(grow(rest, 10, 0), bar)
		out = append(out, digit.text()...)
	}
	if len(rest) > 0 || len(out) > most {
		return "", false
	}
	return string(out), true
}
