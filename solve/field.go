// Package solve has one way of solving for numbers of several kinds: equations, and what they are for a net.
package solve

import "voltaic/frac"

// Field is what can be done with numbers of one kind. The zero value of N is their 0.
type Field[N any] struct {
	One    N
	Of     func(x frac.F) N // a fraction as a number of this kind
	Plus   func(x, y N) N
	Minus  func(x, y N) N
	Times  func(x, y N) N
	Over   func(x, y N) N // y isn't 0
	IsZero func(x N) bool
	Bar    func(x N) N   // not 0; x times it is whole; of what is whole it is 1
	Size   func(x N) int // how much there is to reckon with x; the least of 1 and its opposite, but for 0
}

// Fractions is what can be done with fractions.
func Fractions() Field[frac.F] {
	return Field[frac.F]{
		One:    frac.Of("1"),
		Of:     func(x frac.F) frac.F { return x },
		Plus:   frac.F.Plus,
		Minus:  frac.F.Minus,
		Times:  frac.F.Times,
		Over:   frac.F.Over,
		IsZero: frac.F.IsZero,
		Bar:    frac.F.Bar,
		Size:   frac.F.Bits,
	}
}

// Complexes is what can be done with complex fractions.
func Complexes() Field[frac.Z] {
	return Field[frac.Z]{
		One:    frac.Z{Re: frac.Of("1")},
		Of:     func(x frac.F) frac.Z { return frac.Z{Re: x} },
		Plus:   frac.Z.Plus,
		Minus:  frac.Z.Minus,
		Times:  frac.Z.Times,
		Over:   frac.Z.Over,
		IsZero: frac.Z.IsZero,
		Bar:    frac.Z.Bar,
		Size:   frac.Z.Bits,
	}
}
