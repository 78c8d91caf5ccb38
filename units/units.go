// Package units has quantities as texts: see doc/01-units.md.
package units

import (
	"strings"
	"unicode/utf8"

	"voltaic/api"
	"voltaic/frac"
)

// Signs that look alike, of which one is told.
const (
	micro   rune = 0x00B5 // told
	greekMu rune = 0x03BC
)

const (
	omega   = "\u03A9" // told
	ohmSign = "\u2126"
)

// noPrefix is no rune that a text can have, not even a broken one.
const noPrefix rune = -1

// prefix is its letter and the power of ten that it stands for.
type prefix struct {
	letter rune
	power  int
}

// From the greatest one down, as Print looks for the first that isn't too great.
var prefixes = [...]prefix{
	{'T', 12},
	{'G', 9},
	{'M', 6},
	{'k', 3},
	{noPrefix, 0},
	{'m', -3},
	{micro, -6},
	{'n', -9},
	{'p', -12},
	{'f', -15},
}

// Parse reads a quantity and its unit.
func Parse(text string) (api.Q, string, api.Fault) {
	if len(text) > api.MaxText {
		return refuse(api.ErrMany, 0)
	}
	start := len(text) - len(strings.TrimPrefix(text, "-"))
	point := frac.DigitsEnd(text, start)
	if point == start {
		return refuse(api.ErrText, start)
	}
	end, behind := point, ""
	if strings.HasPrefix(text[point:], ".") {
		end = frac.DigitsEnd(text, point+1)
		behind = text[point+1 : end]
		if behind == "" {
			return refuse(api.ErrText, end)
		}
	}
	power, unit, ok := readEnding(text[end:])
	if !ok {
		return refuse(api.ErrText, end)
	}
	digits := frac.Of(api.Q(text[:point] + behind))
	return digits.Times(frac.Ten(power - len(behind))).Q(), unit, api.Fault{}
}

func refuse(code api.Errno, at int) (api.Q, string, api.Fault) {
	return "", "", api.Fault{Code: code, At: at}
}

// readEnding reads what stands behind the digits: perhaps a prefix, as a power of ten, and perhaps a unit.
func readEnding(text string) (power int, unit string, ok bool) {
	letter, size := utf8.DecodeRuneInString(text)
	if power, ok = readPrefix(letter); ok {
		if unit, ok = readUnit(text[size:]); ok {
			return power, unit, true
		}
	}
	unit, ok = readUnit(text)
	return 0, unit, ok
}

func readPrefix(letter rune) (int, bool) {
	if letter == 'u' || letter == greekMu {
		letter = micro
	}
	for _, p := range prefixes {
		if p.letter == letter {
			return p.power, true
		}
	}
	return 0, false
}

// readUnit answers a unit as it is told; none is one, too.
func readUnit(text string) (string, bool) {
	switch text {
	case "", omega, "F", "H", "V", "A", "S", "W", "s", "Hz":
		return text, true
	case ohmSign:
		return omega, true
	}
	return "", false
}

// Print tells a quantity with its unit.
func Print(q api.Q, u string) (string, api.Errno) {
	if unit, ok := readUnit(u); !ok || unit != u {
		return "", api.ErrKind
	}
	x := frac.Of(q)
	p := prefixOf(x.Abs())
	text, ok := x.Times(frac.Ten(-p.power)).Decimal(api.MaxText)
	if !ok {
		return "", api.ErrForm
	}
	if x.Sign() < 0 {
		text = "-" + text
	}
	return text + p.text() + u, api.OK
}

// prefixOf is the one with which a quantity, which isn't below 0, is told.
func prefixOf(x frac.F) prefix {
	if x.Sign() == 0 {
		return prefix{letter: noPrefix}
	}
	for _, p := range prefixes {
		if x.Compare(frac.Ten(p.power)) >= 0 {
			return p
		}
	}
	return prefixes[len(prefixes)-1]
}

func (p prefix) text() string {
	if p.letter == noPrefix {
		return ""
	}
	return string(p.letter)
}
