package alter

import (
	"math"
	"slices"
	"strings"
	"testing"

	"voltaic/api"
)

func part(kind, a, b int, value api.Q) api.Part {
	return api.Part{Kind: kind, A: a, B: b, Value: value}
}

func led(kind, a, b, c, d int, value api.Q) api.Part {
	return api.Part{Kind: kind, A: a, B: b, C: c, D: d, Value: value}
}

func netOf(nodes int, parts ...api.Part) api.Net { return api.Net{Nodes: nodes, Parts: parts} }

// behind has a volt at node 1, a resistor from there to node 2, and a part from there to the ground.
func behind(ohms api.Q, p api.Part) api.Net {
	return netOf(3, part(api.V, 1, 0, "1"), part(api.R, 1, 2, ohms), p)
}

// numbers are read from words: "3" or "3,-2", which is 3 - 2 i.
func numbers(text string) []api.Z {
	var out []api.Z
	for _, w := range strings.Fields(text) {
		re, im, both := strings.Cut(w, ",")
		if !both {
			im = "0"
		}
		out = append(out, api.Z{Re: api.Q(re), Im: api.Q(im)})
	}
	return out
}

func wantSwing(t *testing.T, n api.Net, w api.Q, volts, amps, watts string) {
	t.Helper()
	s, f := Solve(n, w)
	if !slices.Equal(s.Volts, numbers(volts)) || !slices.Equal(s.Amps, numbers(amps)) || f != (api.Fault{}) {
		t.Errorf("Solve(%v, %s): %v, %v, want %s, %s", n, w, s, f, volts, amps)
	}
	p, f := Power(n, w)
	if !slices.Equal(p, numbers(watts)) || f != (api.Fault{}) {
		t.Errorf("Power(%v, %s): %v, %v, want %s", n, w, p, f, watts)
	}
}

// wantFault asks both calls, and that they tell nothing else.
func wantFault(t *testing.T, n api.Net, w api.Q, code api.Errno, at int) {
	t.Helper()
	want := api.Fault{Code: code, At: at}
	if s, f := Solve(n, w); s.Volts != nil || s.Amps != nil || f != want {
		t.Errorf("Solve(%v, %q): %v, %v, want %v and nothing else", n, w, s, f, want)
	}
	if p, f := Power(n, w); p != nil || f != want {
		t.Errorf("Power(%v, %q): %v, %v, want %v and nothing else", n, w, p, f, want)
	}
}

func TestSwingsOfCapacitorsAndInductors(t *testing.T) {
	c := behind("1", part(api.C, 2, 0, "1"))
	wantSwing(t, c, "1", "0 1 1/2,-1/2", "-1/2,-1/2 1/2,1/2 1/2,1/2", "-1/2,1/2 1/2 0,-1/2")
	wantSwing(t, c, "2", "0 1 1/5,-2/5", "-4/5,-2/5 4/5,2/5 4/5,2/5", "-4/5,2/5 4/5 0,-2/5")
	wantSwing(t, c, "1/2", "0 1 4/5,-2/5", "-1/5,-2/5 1/5,2/5 1/5,2/5", "-1/5,2/5 1/5 0,-2/5")
	l := behind("1", part(api.L, 2, 0, "1"))
	wantSwing(t, l, "1", "0 1 1/2,1/2", "-1/2,1/2 1/2,-1/2 1/2,-1/2", "-1/2,-1/2 1/2 0,1/2")
	wantSwing(t, l, "2", "0 1 4/5,2/5", "-1/5,2/5 1/5,-2/5 1/5,-2/5", "-1/5,-2/5 1/5 0,2/5")
	// Half the pace and twice as much is the same; so are parts the other way round, but for what flows through them.
	wantSwing(t, behind("1", part(api.C, 2, 0, "2")), "1/2", "0 1 1/2,-1/2", "-1/2,-1/2 1/2,1/2 1/2,1/2", "-1/2,1/2 1/2 0,-1/2")
	wantSwing(t, behind("1", part(api.L, 0, 2, "1/3")), "3", "0 1 1/2,1/2", "-1/2,1/2 1/2,-1/2 -1/2,1/2", "-1/2,-1/2 1/2 0,1/2")
	// A current source pushes through them, side by side: 1/(1 + 2 i - i/2).
	beside := netOf(2, part(api.I, 0, 1, "13"), part(api.R, 1, 0, "1"), part(api.C, 1, 0, "1"), part(api.L, 1, 0, "1"))
	wantSwing(t, beside, "2", "0 4,-6", "13 4,-6 12,8 -3,-2", "-52,78 52 0,-104 0,26")
}

func TestSwingsOfSourcesThatAreLed(t *testing.T) {
	// Three times what is at the capacitor, and two amperes a volt there.
	e := netOf(4, part(api.V, 1, 0, "2"), part(api.R, 1, 2, "1"), part(api.C, 2, 0, "1"), led(api.E, 3, 0, 2, 0, "3"), part(api.R, 3, 0, "3"))
	wantSwing(t, e, "1", "0 2 1,-1 3,-3", "-1,-1 1,1 1,1 -1,1 1,-1", "-2,2 2 0,-2 -6 6")
	g := netOf(4, part(api.V, 1, 0, "2"), part(api.R, 1, 2, "1"), part(api.C, 2, 0, "1"), led(api.G, 3, 0, 0, 2, "2"), part(api.L, 3, 0, "3"))
	wantSwing(t, g, "1", "0 2 1,-1 6,6", "-1,-1 1,1 1,1 -2,2 2,-2", "-2,2 2 0,-2 0,-24 0,24")
	// A G across a capacitor that another node leads turns it into what an inductor is: a gyrator.
	turned := netOf(3, led(api.G, 1, 0, 2, 0, "1"), led(api.G, 2, 0, 0, 1, "1"), part(api.C, 2, 0, "5"), part(api.I, 0, 1, "1"))
	wantSwing(t, turned, "1", "0 0,5 1", "1 0,-5 0,5 1", "0,5 0,5 0,-5 0,-5")
}

// At w = 0 an L leads, and a C doesn't.
func TestSwingsAtRest(t *testing.T) {
	wantSwing(t, behind("2", part(api.L, 2, 0, "7")), "0", "0 1 0", "-1/2 1/2 1/2", "-1/2 1/2 0")
	wantSwing(t, behind("2", part(api.C, 2, 0, "7")), "0", "0 1 1", "0 0 0", "0 0 0")
	wantFault(t, netOf(2, part(api.V, 1, 0, "1"), part(api.L, 1, 0, "1")), "0", api.ErrNone, 0)
	wantFault(t, netOf(2, part(api.V, 1, 0, "0"), part(api.L, 1, 0, "1")), "0", api.ErrFree, 0)
	wantFault(t, netOf(2, part(api.I, 0, 1, "1"), part(api.C, 1, 0, "1")), "0", api.ErrNone, 0)
	wantFault(t, netOf(2, part(api.I, 0, 1, "0"), part(api.C, 1, 0, "1")), "0", api.ErrFree, 0)
	// As soon as something swings there is an answer.
	wantSwing(t, netOf(2, part(api.V, 1, 0, "1"), part(api.L, 1, 0, "1")), "1/4", "0 1", "0,4 0,-4", "0,-4 0,4")
	wantSwing(t, netOf(2, part(api.I, 0, 1, "1"), part(api.C, 1, 0, "1")), "1/4", "0 0,-4", "1 1", "0,4 0,-4")
}

// What is no fraction counts as 0, as the paces of a net with an L, which tells them from others.
func TestPacesWrittenOtherwise(t *testing.T) {
	n := behind("2", part(api.L, 2, 0, "7"))
	for _, w := range []api.Q{"", "x", "-", "-x", "1.5", "+1", " 1", "1 ", "1/", "/2", "1/0", "-1/0", "-0", "0/5", "-0/5", "00", "--1", "-1/-1", "1/2/3", "1e3", "１"} {
		wantSwing(t, n, w, "0 1 0", "-1/2 1/2 1/2", "-1/2 1/2 0")
	}
	for _, w := range []api.Q{"2/7", "02/07", "4/14", "0000000000000000000000000000002/7"} {
		wantSwing(t, n, w, "0 1 1/2,1/2", "-1/4,1/4 1/4,-1/4 1/4,-1/4", "-1/4,-1/4 1/4 0,1/4")
	}
}

func TestPacesBelowZero(t *testing.T) {
	for _, w := range []api.Q{"-1", "-1/1000000000000000000000000000000", "-0001/2", "-5/10"} {
		wantFault(t, behind("2", part(api.L, 2, 0, "7")), w, api.ErrValue, 3)
		wantFault(t, netOf(1), w, api.ErrValue, 0)
		// Ahead of nets that have no answer, or many.
		wantFault(t, netOf(2), w, api.ErrValue, 0)
		wantFault(t, netOf(2, part(api.V, 1, 0, "1"), part(api.V, 1, 0, "2")), w, api.ErrValue, 2)
		wantFault(t, netOf(2, part(api.I, 1, 0, "1")), w, api.ErrValue, 1)
	}
}

func TestNetsWithLittleInThem(t *testing.T) {
	for _, w := range []api.Q{"0", "1", "1/3", "x"} {
		wantSwing(t, netOf(1), w, "0", "", "")
		wantSwing(t, api.Net{Nodes: 1, Parts: []api.Part{}}, w, "0", "", "")
		wantSwing(t, netOf(2, part(api.R, 1, 0, "1")), w, "0 0", "0", "0")
		for nodes := 2; nodes <= api.MaxNodes; nodes++ {
			wantFault(t, netOf(nodes), w, api.ErrFree, 0)
		}
	}
}

// An L and a C cancel each other at just one pace: side by side they are a gap, in a row a joint.
func TestNetsThatRing(t *testing.T) {
	side := func(amps api.Q) api.Net {
		return netOf(2, part(api.I, 0, 1, amps), part(api.L, 1, 0, "4"), part(api.C, 1, 0, "1/9"))
	}
	row := func(volts api.Q) api.Net {
		return netOf(3, part(api.V, 1, 0, volts), part(api.L, 1, 2, "4"), part(api.C, 2, 0, "1/9"))
	}
	wantFault(t, side("1"), "3/2", api.ErrNone, 0)
	wantFault(t, side("0"), "3/2", api.ErrFree, 0)
	wantFault(t, row("1"), "3/2", api.ErrNone, 0)
	wantFault(t, row("0"), "3/2", api.ErrFree, 0)
	// 1/(i/3 - i/12) and 1/(12 i - 3 i).
	wantSwing(t, side("1"), "3", "0 0,-4", "1 -1/3 4/3", "0,4 0,4/3 0,-16/3")
	wantSwing(t, row("1"), "3", "0 1 -1/3", "0,1/9 0,-1/9 0,-1/9", "0,-1/9 0,4/27 0,-1/27")
	for _, w := range []api.Q{"1", "2", "3000001/2000000", "2999999/2000000"} {
		for _, n := range []api.Net{side("0"), row("0"), side("1"), row("1")} {
			if s, f := Solve(n, w); f != (api.Fault{}) || !fits(n, w, s) {
				t.Errorf("Solve(%v, %s): %v", n, w, f)
			}
		}
	}
	// With a resistor beside or between them it takes all.
	beside := netOf(2, part(api.I, 0, 1, "1"), part(api.L, 1, 0, "4"), part(api.C, 1, 0, "1/9"), part(api.R, 1, 0, "5"))
	wantSwing(t, beside, "3/2", "0 5", "1 0,-5/6 0,5/6 1", "-5 0,25/6 0,-25/6 5")
	between := netOf(4, part(api.V, 1, 0, "5"), part(api.L, 1, 2, "4"), part(api.C, 2, 3, "1/9"), part(api.R, 3, 0, "5"))
	wantSwing(t, between, "3/2", "0 5 5,-6 5", "-1 1 1 1", "-5 0,6 0,-6 5")
	// What is led may cancel, too: a G that leads itself takes the resistor away, then the others ring.
	away := netOf(2, part(api.I, 0, 1, "1"), part(api.L, 1, 0, "1"), part(api.C, 1, 0, "1"), part(api.R, 1, 0, "2"), led(api.G, 1, 0, 1, 0, "-1/2"))
	wantFault(t, away, "1", api.ErrNone, 0)
	away.Parts[0].Value = "0"
	wantFault(t, away, "1", api.ErrFree, 0)
	wantSwing(t, away, "2", "0 0", "0 0 0 0 0", "0 0 0 0 0")
}

func TestNetsWithNoAnswerOrManyAtAnyPace(t *testing.T) {
	for _, w := range []api.Q{"0", "1", "2/3"} {
		wantFault(t, netOf(2, part(api.V, 1, 0, "1"), part(api.V, 1, 0, "2"), part(api.C, 1, 0, "1")), w, api.ErrNone, 0)
		wantFault(t, netOf(2, part(api.V, 1, 0, "1"), part(api.V, 0, 1, "-1"), part(api.C, 1, 0, "1")), w, api.ErrFree, 0)
		wantFault(t, netOf(2, part(api.I, 1, 0, "1")), w, api.ErrNone, 0)
		wantFault(t, netOf(2, part(api.I, 1, 0, "0")), w, api.ErrFree, 0)
		wantFault(t, netOf(3, part(api.I, 0, 1, "1"), part(api.L, 1, 2, "1")), w, api.ErrNone, 0)
		wantFault(t, netOf(4, part(api.R, 1, 0, "1"), part(api.C, 2, 3, "1")), w, api.ErrFree, 0)
		wantFault(t, netOf(2, led(api.E, 1, 0, 1, 0, "1"), part(api.C, 1, 0, "1")), w, api.ErrFree, 0)
		// No answer goes ahead of more than one.
		wantFault(t, netOf(3, part(api.V, 1, 0, "1"), part(api.V, 1, 0, "2")), w, api.ErrNone, 0)
	}
	// From a node to itself nothing flows through what swings; at rest an L there has any flow.
	around := netOf(1, part(api.L, 0, 0, "1"), part(api.C, 0, 0, "1"), part(api.R, 0, 0, "1"), part(api.I, 0, 0, "3"))
	wantSwing(t, around, "1", "0", "0 0 0 3", "0 0 0 0")
	wantFault(t, around, "0", api.ErrFree, 0)
}

// What chapter 2 says against a net, ahead of what is wrong with the pace.
func TestFaultsOfNets(t *testing.T) {
	for _, w := range []api.Q{"0", "1", "-1"} {
		for _, nodes := range []int{0, -1, api.MaxNodes + 1, math.MaxInt, math.MinInt} {
			wantFault(t, netOf(nodes), w, api.ErrMany, 0)
		}
		wantFault(t, netOf(2, slices.Repeat([]api.Part{part(api.R, 0, 1, "1")}, api.MaxParts+1)...), w, api.ErrMany, 0)
		for code, wrong := range map[api.Errno][]api.Part{
			api.ErrKind:  {part(api.D, 1, 0, ""), part(0, 1, 0, "1"), part(-1, 1, 0, "1"), part(9, 9, 9, "1")},
			api.ErrNode:  {part(api.R, 3, 0, "1"), part(api.L, 0, -1, "1"), led(api.E, 1, 0, 3, 0, "1"), led(api.G, 1, 0, 0, -1, "1")},
			api.ErrValue: {part(api.R, 1, 0, "0"), part(api.L, 1, 0, "-1"), part(api.C, 1, 0, "x")},
			api.ErrForm:  {led(api.C, 1, 0, 1, 0, "1"), led(api.V, 1, 0, 0, 1, "1"), led(api.I, 1, 0, 0, -1, "1")},
		} {
			for _, p := range wrong {
				wantFault(t, netOf(3, part(api.V, 1, 0, "1"), part(api.V, 1, 0, "2"), p, part(0, 0, 0, "")), w, code, 2)
				wantFault(t, netOf(3, p, part(api.D, 1, 0, "")), w, code, 0)
			}
		}
	}
}

func TestAsManyAsThereMayBe(t *testing.T) {
	n := netOf(api.MaxNodes, part(api.I, 0, 1, "1"))
	for i := range api.MaxParts - 1 {
		n.Parts = append(n.Parts, part(1+i%3, i%api.MaxNodes, (i+1)%api.MaxNodes, api.Q(strings.Repeat("3", 31)+"/7")))
	}
	s, f := Solve(n, "5/11")
	if f != (api.Fault{}) || !fits(n, "5/11", s) {
		t.Errorf("Solve(%v): %v, %v", n, s, f)
	}
}
