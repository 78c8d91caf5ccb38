package poly

import (
	"voltaic/api"
	"voltaic/solve"
)

// Volts tells of each node how far it is above the ground, in s. Nothing may be wrong with the net, but it may have more parts than it is allowed to have.
func Volts(n api.Net) ([]R, api.Errno) {
	f := Ratios()
	inS := solve.Laws(f, S())
	volts, _, code := solve.Net(f, n, inS)
	return volts, code
}
