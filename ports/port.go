package ports

import (
	"voltaic/api"
	"voltaic/poly"
	"voltaic/solve"
)

// pair has a fraction for each of the two quantities by which a two-port is told.
type pair = [2]poly.R

// square is a two-port's fractions: its rows.
type square = [2]pair

// port is a two-port with which nothing is wrong.
type port struct {
	kind int
	m    square
}

// What hangs together in a two-port.
const (
	v1 = iota
	v2
	i1
	i2
	quantities // how many there are
)

// wording is how a kind speaks: which two quantities it tells, and by which two.
type wording struct {
	told, by [2]int
	turned   bool // the last one has the other sign
}

// wordingOf answers false if there is no such kind.
func wordingOf(kind int) (wording, bool) {
	switch kind {
	case api.PortZ:
		return wording{told: [2]int{v1, v2}, by: [2]int{i1, i2}}, true
	case api.PortY:
		return wording{told: [2]int{i1, i2}, by: [2]int{v1, v2}}, true
	case api.PortH:
		return wording{told: [2]int{v1, i2}, by: [2]int{i1, v2}}, true
	case api.PortA:
		return wording{told: [2]int{v1, i1}, by: [2]int{v2, i2}, turned: true}, true
	}
	return wording{}, false
}

// last is the last quantity as this kind speaks of it; what this kind says of it is turned back likewise.
func (w wording) last(x pair) pair {
	if !w.turned {
		return x
	}
	return pair{x[0].Opposite(), x[1].Opposite()}
}

// read takes a two-port in, and tells what is wrong with it.
func read(p api.Port) (port, api.Errno) {
	if _, ok := wordingOf(p.Kind); !ok {
		return port{}, api.ErrKind
	}
	out := port{kind: p.Kind}
	for i, r := range p.M {
		x, code := poly.OfRatio(r)
		if code != api.OK {
			return port{}, code
		}
		out.m[i/2][i%2] = x
	}
	return out, api.OK
}

// told is p as texts.
func (p port) told() api.Port {
	out := api.Port{Kind: p.kind}
	for i := range out.M {
		out.M[i] = p.m[i/2][i%2].Ratio()
	}
	return out
}

// hangs tells of each quantity how it hangs on the two by which p is told.
func (p port) hangs() [quantities]pair {
	w, _ := wordingOf(p.kind)
	one := poly.Ratios().One
	var out [quantities]pair
	out[w.told[0]], out[w.told[1]] = p.m[0], p.m[1]
	out[w.by[0]], out[w.by[1]] = pair{0: one}, w.last(pair{1: one})
	return out
}

// as is p told as another kind does; false if it can't be.
func (p port) as(kind int) (port, bool) {
	if kind == p.kind {
		return p, true
	}
	f := poly.Ratios()
	all := p.hangs()
	w, _ := wordingOf(kind)
	first, second := all[w.by[0]], w.last(all[w.by[1]])
	out := port{kind: kind}
	for row, quantity := range w.told {
		sum := all[quantity]
		// How much of the first and how much of the second make this one, whatever those are by which p is told.
		found, code := solve.Rows(f, [][]poly.R{{first[0], second[0], sum[0]}, {first[1], second[1], sum[1]}})
		if code != api.OK {
			return port{}, false
		}
		out.m[row] = pair(found)
	}
	return out, true
}

// isSame tells whether p works both ways alike.
func (p port) isSame() bool {
	second, third := p.m[0][1], p.m[1][0]
	switch p.kind {
	case api.PortH:
		return second.Plus(third).IsZero()
	case api.PortA:
		spread := p.m[0][0].Times(p.m[1][1]).Minus(second.Times(third))
		return spread.Minus(poly.Ratios().One).IsZero()
	}
	return second.Minus(third).IsZero()
}

// filled has at each place what is told of it.
func filled(of func(row, column int) poly.R) square {
	var out square
	for row := range out {
		for column := range out[row] {
			out[row][column] = of(row, column)
		}
	}
	return out
}

func sums(x, y square) square {
	return filled(func(row, column int) poly.R { return x[row][column].Plus(y[row][column]) })
}

func product(x, y square) square {
	return filled(func(row, column int) poly.R {
		return x[row][0].Times(y[0][column]).Plus(x[row][1].Times(y[1][column]))
	})
}
