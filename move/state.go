package move

import (
	"voltaic/api"
	"voltaic/frac"
	"voltaic/solve"
)

// store is what an L or a C has in a state: what it keeps (what flows through L, what is across C), and what changes that (what is across L, what flows through C). Told so, one law holds of both.
type store struct{ kept, changing frac.F }

func isStore(p api.Part) bool { return p.Kind == api.L || p.Kind == api.C }

// storeOf tells of an L or a C what it has.
func storeOf(p api.Part, across, flow frac.F) store {
	if p.Kind == api.L {
		return store{kept: flow, changing: across}
	}
	return store{kept: across, changing: flow}
}

// storeLaw is a law of an L or a C: kept times what it keeps and changing times what changes that add up to sum.
func storeLaw(p api.Part, kept, changing, sum frac.F) solve.Law[frac.F] {
	if p.Kind == api.L {
		return solve.Law[frac.F]{Flow: kept, Across: changing, Sum: sum}
	}
	return solve.Law[frac.F]{Across: kept, Flow: changing, Sum: sum}
}

// past is what all L and C had, by the numbers of their parts. It is told in one unit in which all of it is whole: so what is to be solved stays short, however long the bars are, and no divisors of two long numbers are looked for but where a state is told.
type past struct {
	unit   frac.F
	stores map[int]store
}

// pastOf tells in one unit what was told in another one.
func pastOf(unit frac.F, stores map[int]store) past {
	finer := one()
	for _, x := range stores {
		finer = finer.Common(x.kept).Common(x.changing)
	}
	out := past{unit.Times(finer), map[int]store{}}
	for i, x := range stores {
		out.stores[i] = store{x.kept.Over(finer), x.changing.Over(finer)}
	}
	return out
}

// state is an api.State that can be reckoned with, told in a unit.
type state struct {
	unit         frac.F
	across, amps []frac.F
}

// past is what a state is to the one behind it.
func (s state) past(n api.Net) past {
	stores := map[int]store{}
	for i, p := range n.Parts {
		if isStore(p) {
			stores[i] = storeOf(p, s.across[i], s.amps[i])
		}
	}
	return pastOf(s.unit, stores)
}

// tell tells a state as texts.
func (s state) tell() api.State {
	var out api.State
	for i := range s.across {
		out.Across = append(out.Across, s.across[i].Times(s.unit).Q())
		out.Amps = append(out.Amps, s.amps[i].Times(s.unit).Q())
	}
	return out
}

// rule says what holds of an L or a C that had this.
type rule func(p api.Part, had store) solve.Law[frac.F]

// after is the state of which the rule holds for L and C, and for all others what holds where nothing changes.
func after(n api.Net, was past, holds rule) (state, api.Fault) {
	f := solve.Fractions()
	unchanging := solve.Laws(f, frac.F{})
	var laws []solve.Law[frac.F]
	for i, p := range n.Parts {
		law := unchanging(p)
		law.Sum = law.Sum.Over(was.unit)
		if had, ok := was.stores[i]; ok {
			law = holds(p, had)
		}
		laws = append(laws, law)
	}
	volts, amps, code := solve.Ruled(f, n, laws)
	if code != api.OK {
		return state{}, api.Fault{Code: code}
	}
	out := state{unit: was.unit, amps: amps}
	for _, p := range n.Parts {
		out.across = append(out.across, volts[p.A].Minus(volts[p.B]))
	}
	return out, api.Fault{}
}
