package direct

import (
	"math"
	"slices"
	"strings"
	"testing"

	"voltaic/api"
)

func part(kind, a, b int, value api.Q) api.Part {
	return api.Part{Kind: kind, A: a, B: b, Value: value}
}

func led(kind, a, b, c, d int, value api.Q) api.Part {
	return api.Part{Kind: kind, A: a, B: b, C: c, D: d, Value: value}
}

func netOf(nodes int, parts ...api.Part) api.Net { return api.Net{Nodes: nodes, Parts: parts} }

// divider has 6 V at node 2, which is seen as 6 V and 6/5 Ω.
func divider() api.Net {
	return netOf(3, part(api.V, 1, 0, "10"), part(api.R, 1, 2, "2"), part(api.R, 2, 0, "3"))
}

func words(text string) []api.Q {
	var out []api.Q
	for _, w := range strings.Fields(text) {
		out = append(out, api.Q(w))
	}
	return out
}

// wantSolve has volts, amps and watts as words.
func wantSolve(t *testing.T, n api.Net, volts, amps, watts string) {
	t.Helper()
	a, f := Solve(n)
	if !slices.Equal(a.Volts, words(volts)) || !slices.Equal(a.Amps, words(amps)) || f != (api.Fault{}) {
		t.Errorf("Solve(%v): %v, %v, want %s, %s", n, a, f, volts, amps)
	}
	p, f := Power(n)
	if !slices.Equal(p, words(watts)) || f != (api.Fault{}) {
		t.Errorf("Power(%v): %v, %v, want %s", n, p, f, watts)
	}
}

func wantSeen(t *testing.T, n api.Net, a, b int, volts, ohms api.Q) {
	t.Helper()
	v, o, f := Seen(n, a, b)
	if v != volts || o != ohms || f != (api.Fault{}) {
		t.Errorf("Seen(%v, %d, %d): %s, %s, %v, want %s, %s", n, a, b, v, o, f, volts, ohms)
	}
}

func wantNotSeen(t *testing.T, n api.Net, a, b int, code api.Errno, at int) {
	t.Helper()
	v, o, f := Seen(n, a, b)
	if v != "" || o != "" || f != (api.Fault{Code: code, At: at}) {
		t.Errorf("Seen(%v, %d, %d): %q, %q, %v, want the fault %d at %d and nothing else", n, a, b, v, o, f, code, at)
	}
}

// wantFault asks all calls, and that they tell nothing else.
func wantFault(t *testing.T, n api.Net, code api.Errno, at int) {
	t.Helper()
	want := api.Fault{Code: code, At: at}
	if a, f := Solve(n); a.Volts != nil || a.Amps != nil || f != want {
		t.Errorf("Solve(%v): %v, %v, want %v and nothing else", n, a, f, want)
	}
	if p, f := Power(n); p != nil || f != want {
		t.Errorf("Power(%v): %v, %v, want %v and nothing else", n, p, f, want)
	}
	wantNotSeen(t, n, 0, 0, code, at)
}

// P3.1

func TestSolveOrdinaryNets(t *testing.T) {
	wantSolve(t, divider(), "0 10 6", "-2 2 2", "-20 8 12")
	// The same, each part the other way round.
	wantSolve(t, netOf(3, part(api.V, 0, 1, "-10"), part(api.R, 2, 1, "2"), part(api.R, 0, 2, "3")), "0 10 6", "2 -2 -2", "-20 8 12")
	// A current source pushes through two resistors side by side.
	wantSolve(t, netOf(2, part(api.I, 0, 1, "3"), part(api.R, 1, 0, "2"), part(api.R, 0, 1, "4")), "0 4", "3 2 -1", "-12 8 4")
	// Wheatstone's bridge, in balance.
	wantSolve(t, netOf(4, part(api.V, 3, 0, "5"), part(api.R, 3, 1, "1"), part(api.R, 3, 2, "2"), part(api.R, 1, 0, "2"), part(api.R, 2, 0, "4"), part(api.R, 1, 2, "7")),
		"0 10/3 10/3 5", "-5/2 5/3 5/6 5/3 5/6 0", "-25/2 25/9 25/18 50/9 25/9 0")
	// An inductor is a joint, a capacitor a gap.
	wantSolve(t, netOf(4, part(api.V, 1, 0, "1"), part(api.L, 1, 2, "5"), part(api.R, 2, 3, "4"), part(api.L, 3, 0, "1/7"), part(api.C, 2, 0, "9")),
		"0 1 1 0", "-1/4 1/4 1/4 1/4 0", "-1/4 0 1/4 0 0")
	// Sources that are led: of ten times what is at node 1, and of two amperes a volt there.
	wantSolve(t, netOf(3, part(api.V, 1, 0, "1/2"), led(api.E, 2, 0, 1, 0, "10"), part(api.R, 2, 0, "3")), "0 1/2 5", "0 -5/3 5/3", "0 -25/3 25/3")
	wantSolve(t, netOf(3, part(api.V, 1, 0, "1/2"), led(api.G, 2, 0, 0, 1, "2"), part(api.R, 2, 0, "3")), "0 1/2 3", "0 -1 1", "0 -3 3")
	// A battery whose poles are both above the ground.
	wantSolve(t, netOf(3, part(api.R, 1, 0, "1"), part(api.V, 2, 1, "6"), part(api.R, 2, 0, "2"), part(api.I, 0, 1, "3")), "0 0 6", "0 -3 3 3", "0 -18 18 0")
}

func TestSolveNetsWithLittleInThem(t *testing.T) {
	wantSolve(t, netOf(1), "0", "", "")
	wantSolve(t, api.Net{Nodes: 1, Parts: []api.Part{}}, "0", "", "")
	wantSolve(t, netOf(2, part(api.R, 1, 0, "1")), "0 0", "0", "0")
	for nodes := 2; nodes <= api.MaxNodes; nodes++ {
		wantFault(t, netOf(nodes), api.ErrFree, 0)
	}
	// Nodes that no part joins to the ground, or that capacitors and current sources alone do.
	wantFault(t, netOf(3, part(api.V, 1, 0, "1"), part(api.R, 1, 0, "1")), api.ErrFree, 0)
	wantFault(t, netOf(4, part(api.V, 1, 0, "1"), part(api.R, 2, 3, "1"), part(api.V, 2, 3, "1")), api.ErrFree, 0)
	wantFault(t, netOf(2, part(api.C, 1, 0, "1")), api.ErrFree, 0)
	wantFault(t, netOf(2, part(api.I, 1, 0, "0")), api.ErrFree, 0)
}

func TestSolveValuesWrittenOtherwise(t *testing.T) {
	wantSolve(t, netOf(2, part(api.V, 1, 0, "06/4"), part(api.R, 1, 0, "6/8"), part(api.I, 1, 0, "none"), part(api.I, 1, 0, "1/0")), "0 3/2", "-2 2 0 0", "-3 3 0 0")
	wantSolve(t, netOf(2, part(api.R, 1, 0, "1"), part(api.V, 1, 0, "")), "0 0", "0 0", "0 0")
	wantSolve(t, netOf(2, part(api.I, 0, 1, "-0"), part(api.R, 1, 0, "12345678901234567890123/12345678901234567890122")), "0 0", "0 0", "0 0")
	long := api.Q(strings.Repeat("7", api.MaxText))
	wantSolve(t, netOf(2, part(api.V, 1, 0, long), part(api.R, 1, 0, long+"/5")), "0 "+string(long), "-5 5", "-"+times5(long)+" "+times5(long))
}

func times5(q api.Q) string { return "3" + strings.Repeat("8", len(q)-1) + "5" }

func TestSolvePartsFromANodeToItself(t *testing.T) {
	around := func(p api.Part) api.Net { return netOf(2, part(api.V, 1, 0, "2"), part(api.R, 1, 0, "1"), p) }
	for node := range 2 {
		wantSolve(t, around(part(api.R, node, node, "5")), "0 2", "-2 2 0", "-4 4 0")
		wantSolve(t, around(part(api.C, node, node, "5")), "0 2", "-2 2 0", "-4 4 0")
		wantSolve(t, around(part(api.I, node, node, "5")), "0 2", "-2 2 5", "-4 4 0")
		wantSolve(t, around(led(api.G, node, node, 1, 0, "5")), "0 2", "-2 2 10", "-4 4 0")
		wantFault(t, around(part(api.L, node, node, "5")), api.ErrFree, 0)
		wantFault(t, around(part(api.V, node, node, "0")), api.ErrFree, 0)
		wantFault(t, around(part(api.V, node, node, "5")), api.ErrNone, 0)
		wantFault(t, around(led(api.E, node, node, 1, 0, "5")), api.ErrNone, 0)
		wantFault(t, around(led(api.E, node, node, 1, 1, "5")), api.ErrFree, 0)
	}
	wantSolve(t, netOf(1, part(api.I, 0, 0, "7"), part(api.R, 0, 0, "7"), part(api.C, 0, 0, "7"), part(api.G, 0, 0, "7")), "0", "7 0 0 0", "0 0 0 0")
}

func TestSolveBatteriesSideBySide(t *testing.T) {
	wantFault(t, netOf(2, part(api.V, 1, 0, "1"), part(api.V, 1, 0, "1")), api.ErrFree, 0)
	wantFault(t, netOf(2, part(api.V, 1, 0, "1"), part(api.V, 0, 1, "-2/2")), api.ErrFree, 0)
	wantFault(t, netOf(2, part(api.V, 1, 0, "1"), part(api.V, 1, 0, "2")), api.ErrNone, 0)
	wantFault(t, netOf(2, part(api.V, 1, 0, "1"), part(api.V, 0, 1, "1"), part(api.R, 1, 0, "1")), api.ErrNone, 0)
	wantFault(t, netOf(3, part(api.V, 1, 0, "1"), part(api.V, 2, 1, "2"), part(api.V, 2, 0, "3")), api.ErrFree, 0)
	wantFault(t, netOf(3, part(api.V, 1, 0, "1"), part(api.V, 2, 1, "2"), part(api.V, 0, 2, "3")), api.ErrNone, 0)
	// No answer goes ahead of more than one: those that don't agree beside a node that nothing joins.
	wantFault(t, netOf(3, part(api.V, 1, 0, "1"), part(api.V, 1, 0, "2")), api.ErrNone, 0)
	wantSolve(t, netOf(3, part(api.V, 1, 0, "1"), part(api.V, 2, 1, "2"), part(api.R, 2, 0, "3")), "0 1 3", "-1 -1 1", "-1 -2 3")
}

func TestSolveSourcesThatHaveNowhereToFlow(t *testing.T) {
	wantFault(t, netOf(2, part(api.I, 1, 0, "1")), api.ErrNone, 0)
	wantFault(t, netOf(2, part(api.I, 0, 1, "1"), part(api.C, 1, 0, "1")), api.ErrNone, 0)
	wantFault(t, netOf(2, part(api.I, 0, 1, "1"), part(api.I, 0, 1, "1")), api.ErrNone, 0)
	wantFault(t, netOf(2, part(api.I, 0, 1, "1"), part(api.I, 1, 0, "1")), api.ErrFree, 0)
	wantFault(t, netOf(3, part(api.I, 0, 1, "1"), part(api.R, 1, 2, "1")), api.ErrNone, 0)
	wantFault(t, netOf(3, part(api.I, 2, 1, "1"), part(api.R, 1, 2, "1")), api.ErrFree, 0)
	wantSolve(t, netOf(2, part(api.I, 0, 1, "1"), part(api.V, 1, 0, "5")), "0 5", "1 1", "-5 5")
}

func TestSolveLoopsOfInductorsAndBatteries(t *testing.T) {
	wantFault(t, netOf(2, part(api.L, 1, 0, "1"), part(api.L, 1, 0, "2")), api.ErrFree, 0)
	wantFault(t, netOf(2, part(api.V, 1, 0, "0"), part(api.L, 1, 0, "2")), api.ErrFree, 0)
	wantFault(t, netOf(2, part(api.V, 1, 0, "1"), part(api.L, 1, 0, "2")), api.ErrNone, 0)
	wantFault(t, netOf(3, part(api.V, 1, 0, "1"), part(api.L, 1, 2, "2"), part(api.V, 0, 2, "-1")), api.ErrFree, 0)
	wantFault(t, netOf(3, part(api.V, 1, 0, "1"), part(api.L, 1, 2, "2"), part(api.L, 0, 2, "2")), api.ErrNone, 0)
	wantSolve(t, netOf(2, part(api.L, 1, 0, "1"), part(api.I, 0, 1, "4"), part(api.R, 1, 0, "3")), "0 0", "4 4 0", "0 0 0")
}

func TestSolveWhatLeadsItself(t *testing.T) {
	// What is k times itself is 0, unless k is 1.
	wantSolve(t, netOf(2, led(api.E, 1, 0, 1, 0, "2"), part(api.I, 0, 1, "3")), "0 0", "3 3", "0 0")
	wantFault(t, netOf(2, led(api.E, 1, 0, 1, 0, "1"), part(api.I, 0, 1, "3")), api.ErrFree, 0)
	wantFault(t, netOf(2, led(api.E, 1, 0, 1, 0, "1"), part(api.R, 1, 0, "1")), api.ErrFree, 0)
	wantFault(t, netOf(2, led(api.E, 1, 0, 1, 0, "2"), part(api.V, 1, 0, "3")), api.ErrNone, 0)
	wantFault(t, netOf(2, led(api.E, 1, 0, 1, 0, "1"), part(api.V, 1, 0, "3")), api.ErrFree, 0)
	// A G that leads itself is a resistor, perhaps one below 0.
	loaded := func(g, pushed api.Q) api.Net {
		return netOf(2, led(api.G, 1, 0, 1, 0, g), part(api.R, 1, 0, "1"), part(api.I, 0, 1, pushed))
	}
	wantSolve(t, loaded("1", "4"), "0 2", "2 2 4", "4 4 -8")
	wantSolve(t, loaded("-3", "4"), "0 -2", "6 -2 4", "-12 4 8")
	wantFault(t, loaded("-1", "4"), api.ErrNone, 0)
	wantFault(t, loaded("-1", "0"), api.ErrFree, 0)
	// Two that lead each other.
	round := func(there, back, volts api.Q) api.Net {
		return netOf(3, led(api.E, 1, 0, 2, 0, there), led(api.E, 2, 0, 1, 0, back), part(api.R, 1, 2, "1"), part(api.V, 1, 2, volts))
	}
	wantFault(t, round("2", "1/2", "0"), api.ErrFree, 0)
	wantFault(t, round("1", "1", "1"), api.ErrNone, 0)
	both := netOf(3, led(api.E, 1, 0, 2, 0, "2"), led(api.E, 2, 0, 1, 0, "3"), part(api.R, 1, 2, "1"), part(api.I, 1, 2, "1"))
	wantSolve(t, both, "0 0 0", "-1 1 0 1", "0 0 0 0")
}

func TestSolveAsManyAsThereMayBe(t *testing.T) {
	n := netOf(api.MaxNodes)
	for i := range api.MaxNodes {
		for range api.MaxParts / api.MaxNodes {
			n.Parts = append(n.Parts, part(api.R, i, (i+1)%api.MaxNodes, "2"))
		}
	}
	wantSolve(t, n, "0 0 0 0 0 0 0 0", strings.Repeat("0 ", api.MaxParts), strings.Repeat("0 ", api.MaxParts))
	// Around a ring of 8 Ω, 1 and 7, 2 and 6, 3 and 5, 4 and 4 Ω lie side by side.
	for away, ohms := range []api.Q{"0", "7/8", "3/2", "15/8", "2", "15/8", "3/2", "7/8"} {
		for a := range api.MaxNodes {
			wantSeen(t, n, a, (a+away)%api.MaxNodes, "0", ohms)
		}
	}
}

// What chapter 2 says against a net.
func TestFaultsOfNets(t *testing.T) {
	for _, nodes := range []int{0, -1, api.MaxNodes + 1, math.MaxInt, math.MinInt} {
		wantFault(t, netOf(nodes), api.ErrMany, 0)
	}
	wantFault(t, api.Net{}, api.ErrMany, 0)
	wantFault(t, netOf(2, slices.Repeat([]api.Part{part(api.R, 0, 1, "1")}, api.MaxParts+1)...), api.ErrMany, 0)
	for code, wrong := range map[api.Errno][]api.Part{
		api.ErrKind:  {part(api.D, 1, 0, ""), part(0, 1, 0, "1"), part(-1, 1, 0, "1"), part(9, 1, 0, "1"), part(math.MaxInt, 9, 9, "0")},
		api.ErrNode:  {part(api.R, 3, 0, "1"), part(api.V, 0, -1, "1"), led(api.E, 1, 0, 3, 0, "1"), led(api.G, 1, 0, 0, -1, "1"), part(api.R, 3, 0, "0")},
		api.ErrValue: {part(api.R, 1, 0, "0"), part(api.L, 1, 0, "-1"), part(api.C, 1, 0, "x"), led(api.R, 1, 0, 1, 0, "0")},
		api.ErrForm:  {led(api.R, 1, 0, 1, 0, "1"), led(api.V, 1, 0, 0, 1, "1"), led(api.I, 1, 0, 0, -1, "1")},
	} {
		for _, p := range wrong {
			n := divider()
			n.Parts = append(n.Parts, p, part(0, 0, 0, ""))
			wantFault(t, n, code, 3)
			wantFault(t, netOf(3, p, part(api.D, 1, 0, "")), code, 0)
			// Ahead of nodes that aren't there, and of a net that has no answer.
			wantNotSeen(t, n, -1, 99, code, 3)
		}
	}
}

// P3.2

func TestSeen(t *testing.T) {
	wantSeen(t, divider(), 2, 0, "6", "6/5")
	wantSeen(t, divider(), 0, 2, "-6", "6/5")
	wantSeen(t, divider(), 1, 0, "10", "0")
	wantSeen(t, divider(), 1, 2, "4", "6/5")
	for node := range 3 {
		wantSeen(t, divider(), node, node, "0", "0")
	}
	wantSeen(t, netOf(1), 0, 0, "0", "0")
	// A current source is a gap, when it is 0; a battery, and an inductor, a joint; a capacitor a gap.
	wantSeen(t, netOf(2, part(api.I, 0, 1, "3"), part(api.R, 1, 0, "2")), 1, 0, "6", "2")
	wantSeen(t, netOf(4, part(api.V, 1, 0, "3"), part(api.R, 1, 2, "2"), part(api.L, 2, 3, "2"), part(api.C, 3, 0, "2"), part(api.R, 3, 0, "2")), 3, 0, "3/2", "1")
	// What is led stays so: of a G that leads itself it is 1 over (1 over 2 less 1/4); and ohms may be below 0.
	wantSeen(t, netOf(2, led(api.G, 1, 0, 1, 0, "-1/4"), part(api.R, 1, 0, "2"), part(api.I, 0, 1, "3")), 1, 0, "12", "4")
	wantSeen(t, netOf(2, led(api.G, 1, 0, 1, 0, "-1"), part(api.R, 1, 0, "2"), part(api.I, 0, 1, "3")), 1, 0, "-6", "-2")
	wantSeen(t, netOf(3, part(api.V, 1, 0, "1"), led(api.E, 2, 0, 1, 0, "10"), part(api.R, 2, 0, "3")), 2, 0, "10", "0")
	wantSeen(t, netOf(3, part(api.V, 1, 0, "1"), led(api.E, 2, 0, 1, 0, "10"), part(api.R, 2, 0, "3")), 2, 1, "9", "0")
}

func TestSeenFaults(t *testing.T) {
	n := divider()
	for _, node := range []int{-1, 3, 99, math.MaxInt, math.MinInt} {
		wantNotSeen(t, n, node, 0, api.ErrNode, 3)
		wantNotSeen(t, n, node, node, api.ErrNode, 3)
		wantNotSeen(t, n, 0, node, api.ErrNode, 4)
		wantNotSeen(t, netOf(1), node, 0, api.ErrNode, 0)
		wantNotSeen(t, netOf(1), 0, node, api.ErrNode, 1)
		// Nodes are asked for ahead of answers.
		wantNotSeen(t, netOf(2), node, 0, api.ErrNode, 0)
		wantNotSeen(t, netOf(2, part(api.I, 0, 1, "1")), 1, node, api.ErrNode, 2)
	}
	// Also where there is no room for another part.
	full := netOf(2, slices.Repeat([]api.Part{part(api.R, 0, 1, "16")}, api.MaxParts)...)
	wantNotSeen(t, full, 2, 2, api.ErrNode, api.MaxParts)
	wantNotSeen(t, full, 1, 2, api.ErrNode, api.MaxParts+1)
	wantSeen(t, full, 1, 0, "0", "1")
	// Solve's faults, whichever nodes are asked for: nodes that nothing joins to each other, what can't be, what may be otherwise.
	for a := range 4 {
		for b := range 4 {
			wantNotSeen(t, netOf(4, part(api.R, 0, 1, "1"), part(api.R, 2, 3, "1")), a, b, api.ErrFree, 0)
			wantNotSeen(t, netOf(4, part(api.V, 0, 1, "1"), part(api.R, 2, 3, "1"), part(api.L, 1, 0, "1")), a, b, api.ErrNone, 0)
			wantNotSeen(t, netOf(4, part(api.R, 0, 1, "1"), part(api.C, 1, 2, "1"), part(api.R, 2, 3, "1")), a, b, api.ErrFree, 0)
		}
	}
}
