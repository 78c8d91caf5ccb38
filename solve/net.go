package solve

import (
	"slices"

	"voltaic/api"
	"voltaic/frac"
)

// Law is what holds of a part: Across times what is across it, Flow times what flows through it, and Led times what leads it (node C less node D) add up to Sum.
type Law[N any] struct{ Across, Flow, Led, Sum N }

// Laws is what holds of the parts of a net that swings as s says: of L what is across is s times Value times what flows, of C the other way round. Where nothing changes, s is 0.
func Laws[N any](f Field[N], s N) func(p api.Part) Law[N] {
	var zero N
	opposite := func(x N) N { return f.Minus(zero, x) }
	return func(p api.Part) Law[N] {
		value := f.Of(frac.Of(p.Value))
		switch p.Kind {
		case api.R:
			return Law[N]{Across: f.One, Flow: opposite(value)}
		case api.L:
			return Law[N]{Across: f.One, Flow: opposite(f.Times(s, value))}
		case api.C:
			return Law[N]{Flow: f.One, Across: opposite(f.Times(s, value))}
		case api.V:
			return Law[N]{Across: f.One, Sum: value}
		case api.E:
			return Law[N]{Across: f.One, Led: opposite(value)}
		case api.G:
			return Law[N]{Flow: f.One, Led: opposite(value)}
		}
		return Law[N]{Flow: f.One, Sum: value} // I: diodes have no law of their own
	}
}

// Net tells of each node how far it is above the ground, and of each part what flows through it from A to B, where law says what holds of each. ErrNone if there is no answer, ErrFree if there are more than one. Nothing may be wrong with the net, but it may have more parts than it is allowed to have.
func Net[N any](f Field[N], n api.Net, law func(p api.Part) Law[N]) (volts, amps []N, code api.Errno) {
	var laws []Law[N]
	for _, p := range n.Parts {
		laws = append(laws, law(p))
	}
	return Ruled(f, n, laws)
}

// Ruled tells the same where each part has a law of its own.
func Ruled[N any](f Field[N], n api.Net, laws []Law[N]) (volts, amps []N, code api.Errno) {
	var rows [][]N
	for node := range n.Nodes {
		rows = append(rows, nodeRow(f, n, node))
	}
	for i, law := range laws {
		rows = append(rows, partRow(f, n, i, law))
	}
	found, code := Rows(f, rows)
	if code != api.OK {
		return nil, nil, code
	}
	return slices.Clone(found[:n.Nodes]), slices.Clone(found[n.Nodes:]), api.OK
}

// emptyRow has a place for each node's volts, then for each part's amps, then for what they add up to.
func emptyRow[N any](n api.Net) []N { return make([]N, n.Nodes+len(n.Parts)+1) }

// nodeRow says that what flows into a node flows out of it. Of the ground that follows from all others: there it says that it isn't above itself.
func nodeRow[N any](f Field[N], n api.Net, node int) []N {
	row := emptyRow[N](n)
	if node == 0 {
		row[0] = f.One
		return row
	}
	for i, p := range n.Parts {
		amps := n.Nodes + i
		if p.A == node {
			row[amps] = f.Plus(row[amps], f.One)
		}
		if p.B == node {
			row[amps] = f.Minus(row[amps], f.One)
		}
	}
	return row
}

// partRow says what holds of a part.
func partRow[N any](f Field[N], n api.Net, part int, law Law[N]) []N {
	row := emptyRow[N](n)
	p := n.Parts[part]
	add := func(place int, x N) { row[place] = f.Plus(row[place], x) }
	take := func(place int, x N) { row[place] = f.Minus(row[place], x) }
	add(p.A, law.Across)
	take(p.B, law.Across)
	add(p.C, law.Led)
	take(p.D, law.Led)
	row[n.Nodes+part] = law.Flow
	row[len(row)-1] = law.Sum
	return row
}

// Ends tells what is wrong with two nodes from which a net is seen.
func Ends(n api.Net, a, b int) api.Fault {
	for i, node := range [...]int{a, b} {
		if node < 0 || node >= n.Nodes {
			return api.Fault{Code: api.ErrNode, At: len(n.Parts) + i}
		}
	}
	return api.Fault{}
}

// Pushed is the net whose V and I are 0, with one ampere more, pushed through another part from b to a.
func Pushed(n api.Net, a, b int) api.Net {
	parts := slices.Clone(n.Parts)
	for i, p := range parts {
		if p.Kind == api.V || p.Kind == api.I {
			parts[i].Value = "0"
		}
	}
	parts = append(parts, api.Part{Kind: api.I, A: b, B: a, Value: "1"})
	return api.Net{Nodes: n.Nodes, Parts: parts}
}
