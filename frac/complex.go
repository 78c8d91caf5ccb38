package frac

import "voltaic/api"

// Z is a complex fraction; the zero value is 0.
type Z struct{ Re, Im F }

// OfZ reads a complex fraction; of its parts, what is no fraction counts as 0.
func OfZ(z api.Z) Z { return Z{Of(z.Re), Of(z.Im)} }

// Z tells a complex fraction as texts.
func (x Z) Z() api.Z { return api.Z{Re: x.Re.Q(), Im: x.Im.Q()} }

// Nearest has the nearest floats of both parts.
func (x Z) Nearest() complex128 { return complex(x.Re.Nearest(), x.Im.Nearest()) }

// IsZero tells whether x is 0.
func (x Z) IsZero() bool { return x.Re.IsZero() && x.Im.IsZero() }

// Bits is how long x is: of no number but 0 it is less than of 1.
func (x Z) Bits() int { return x.Re.Bits() + x.Im.Bits() }

// Bar is what makes both parts whole, when x is multiplied by it.
func (x Z) Bar() Z {
	bar := x.Re.Bar()
	return Z{Re: bar.Times(x.Im.Times(bar).Bar())}
}

// Mirrored is x with the other sign of its imaginary part.
func (x Z) Mirrored() Z { return Z{x.Re, x.Im.Opposite()} }

// Plus is the sum.
func (x Z) Plus(y Z) Z { return Z{x.Re.Plus(y.Re), x.Im.Plus(y.Im)} }

// Minus is the difference.
func (x Z) Minus(y Z) Z { return Z{x.Re.Minus(y.Re), x.Im.Minus(y.Im)} }

// Times is the product.
func (x Z) Times(y Z) Z {
	return Z{
		x.Re.Times(y.Re).Minus(x.Im.Times(y.Im)),
		x.Re.Times(y.Im).Plus(x.Im.Times(y.Re)),
	}
}

// Over is x divided by y; what is divided by 0 counts as 0.
func (x Z) Over(y Z) Z {
	if !y.Im.IsZero() {
		x, y = x.Times(y.Mirrored()), y.Times(y.Mirrored())
	}
	return Z{x.Re.Over(y.Re), x.Im.Over(y.Re)}
}
