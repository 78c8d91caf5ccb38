package poly

import (
	"voltaic/api"
	"voltaic/frac"
	"voltaic/solve"
)

// R is a fraction of polynomials in lowest terms; the zero value is 0.
type R struct {
	up   P
	down P // the last number is 1; no numbers: 1, so that the zero value is a fraction
}

// OfRatio reads a fraction, and tells what is wrong with it.
func OfRatio(r api.Ratio) (R, api.Errno) {
	if max(len(r.Up), len(r.Down)) > api.MaxDegree+1 {
		return R{}, api.ErrMany
	}
	down := Of(r.Down)
	if down.IsZero() {
		return R{}, api.ErrZero
	}
	return lowest(Of(r.Up), down), api.OK
}

// Ratio tells a fraction as texts.
func (x R) Ratio() api.Ratio { return api.Ratio{Up: x.up.Q(), Down: x.Down().Q()} }

// S is the fraction s.
func S() R { return R{up: P{frac.F{}, frac.Of("1")}} }

// Whole is a polynomial as a fraction.
func Whole(p P) R { return R{up: p} }

// Up is what stands above the bar.
func (x R) Up() P { return x.up }

// Down is what stands below the bar.
func (x R) Down() P {
	if x.isWhole() {
		return one()
	}
	return x.down
}

func (x R) isWhole() bool { return len(x.down) == 0 }

// lowest is up over down, which isn't 0.
func lowest(up, down P) R {
	// What goes up without a rest, as it often does where equations are solved, needs no divisor looked for.
	if mayGoInto(down, up) {
		if whole, rest := up.Parted(down); rest.IsZero() {
			return R{up: whole}
		}
	}
	shared := Common(up, down)
	return barred(up.Without(shared), down.Without(shared))
}

// barred is up over down, which isn't 0; they have no common divisor.
func barred(up, down P) R {
	last := frac.Of("1").Over(down.Last())
	if len(down) == 1 {
		return R{up: up.Scaled(last)}
	}
	return R{up.Scaled(last), down.Scaled(last)}
}

// IsZero tells whether x is 0.
func (x R) IsZero() bool { return x.up.IsZero() }

// Opposite is x with the other sign.
func (x R) Opposite() R { return R{x.up.Opposite(), x.down} }

// Plus is the sum. As with fractions of numbers (Knuth), divisors are looked for in what is below the bars, which is shorter than what comes of it: of the new bar, the sum shares only what the two bars share.
func (x R) Plus(y R) R {
	if x.isWhole() && y.isWhole() {
		return R{up: x.up.Plus(y.up)}
	}
	shared := Common(x.Down(), y.Down())
	xRest, yRest := x.Down().Without(shared), y.Down().Without(shared)
	up := x.up.Times(yRest).Plus(y.up.Times(xRest))
	again := Common(up, shared)
	return barred(up.Without(again), xRest.Times(y.Down().Without(again)))
}

// Minus is the difference.
func (x R) Minus(y R) R { return x.Plus(y.Opposite()) }

// Times is the product. Divisors are looked for above the one bar and below the other, as in sums.
func (x R) Times(y R) R {
	if x.isWhole() && y.isWhole() {
		return R{up: x.up.Times(y.up)}
	}
	first, second := Common(x.up, y.Down()), Common(y.up, x.Down())
	up := x.up.Without(first).Times(y.up.Without(second))
	return barred(up, x.Down().Without(second).Times(y.Down().Without(first)))
}

// Over is x divided by y; what is divided by 0 counts as 0.
func (x R) Over(y R) R {
	if y.IsZero() {
		return R{}
	}
	if x.isWhole() && y.isWhole() {
		return lowest(x.up, y.up)
	}
	return x.Times(barred(y.Down(), y.up))
}

// Bar is what makes x a polynomial of whole numbers, when x is multiplied by it.
func (x R) Bar() R {
	return R{up: x.Down().Scaled(x.up.bar())}
}

// Size is how much there is to reckon with x: of no fraction but 0 it is less than of 1.
func (x R) Size() int {
	size := 0
	for _, p := range [...]P{x.up, x.down} {
		for _, number := range p {
			size += 1 + number.Bits() // noughts are places to be gone through, too
		}
	}
	return size
}

// Ratios is what can be done with fractions of polynomials.
func Ratios() solve.Field[R] {
	return solve.Field[R]{
		One:    R{up: one()},
		Of:     func(x frac.F) R { return R{up: trim(P{x})} },
		Plus:   R.Plus,
		Minus:  R.Minus,
		Times:  R.Times,
		Over:   R.Over,
		IsZero: R.IsZero,
		Bar:    R.Bar,
		Size:   R.Size,
	}
}
