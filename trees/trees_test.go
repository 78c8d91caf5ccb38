package trees

import (
	"math"
	"slices"
	"strings"
	"testing"

	"voltaic/api"
)

func part(kind, a, b int, value api.Q) api.Part {
	return api.Part{Kind: kind, A: a, B: b, Value: value}
}

func led(kind, a, b, c, d int, value api.Q) api.Part {
	return api.Part{Kind: kind, A: a, B: b, C: c, D: d, Value: value}
}

func ohms(a, b int, value api.Q) api.Part { return part(api.R, a, b, value) }

func netOf(nodes int, parts ...api.Part) api.Net { return api.Net{Nodes: nodes, Parts: parts} }

func triangle(x, y, z api.Q) api.Net {
	return netOf(3, ohms(0, 1, x), ohms(1, 2, y), ohms(2, 0, z))
}

func words(text string) []api.Q {
	var out []api.Q
	for _, w := range strings.Fields(text) {
		out = append(out, api.Q(w))
	}
	return out
}

func wantWeight(t *testing.T, n api.Net, want api.Q) {
	t.Helper()
	if got, f := Weight(n); got != want || f != (api.Fault{}) {
		t.Errorf("Weight(%v): %s, %v, want %s", n, got, f, want)
	}
}

// wantBetween asks both ways.
func wantBetween(t *testing.T, n api.Net, a, b int, want api.Q) {
	t.Helper()
	for _, ends := range [][2]int{{a, b}, {b, a}} {
		if got, f := Between(n, ends[0], ends[1]); got != want || f != (api.Fault{}) {
			t.Errorf("Between(%v, %v): %s, %v, want %s", n, ends, got, f, want)
		}
	}
}

func wantNotBetween(t *testing.T, n api.Net, a, b int, code api.Errno, at int) {
	t.Helper()
	if got, f := Between(n, a, b); got != "" || f != (api.Fault{Code: code, At: at}) {
		t.Errorf("Between(%v, %d, %d): %q, %v, want %d at %d and nothing else", n, a, b, got, f, code, at)
	}
}

func wantWalk(t *testing.T, n api.Net, a, b int, want string) {
	t.Helper()
	if got, f := Walk(n, a, b); !slices.Equal(got, words(want)) || f != (api.Fault{}) {
		t.Errorf("Walk(%v, %d, %d): %v, %v, want %s", n, a, b, got, f, want)
	}
}

func wantNoWalk(t *testing.T, n api.Net, a, b int, code api.Errno, at int) {
	t.Helper()
	if got, f := Walk(n, a, b); got != nil || f != (api.Fault{Code: code, At: at}) {
		t.Errorf("Walk(%v, %d, %d): %v, %v, want %d at %d and nothing else", n, a, b, got, f, code, at)
	}
}

// wantFault asks all calls, with whatever nodes.
func wantFault(t *testing.T, n api.Net, code api.Errno, at int) {
	t.Helper()
	want := api.Fault{Code: code, At: at}
	if f := Check(n); f != want {
		t.Errorf("Check(%v): %v, want %v", n, f, want)
	}
	if w, f := Weight(n); w != "" || f != want {
		t.Errorf("Weight(%v): %q, %v, want %v and nothing else", n, w, f, want)
	}
	for _, node := range []int{-1, 0, 1, 99} {
		wantNotBetween(t, n, 0, node, code, at)
		wantNotBetween(t, n, node, 1, code, at)
		wantNoWalk(t, n, 0, node, code, at)
		wantNoWalk(t, n, node, 1, code, at)
	}
}

// P4.1

func TestCheckLetsResistorsPass(t *testing.T) {
	for _, n := range []api.Net{
		netOf(1), {Nodes: 1, Parts: []api.Part{}}, netOf(api.MaxNodes), triangle("1", "02/4", "3"), netOf(1, ohms(0, 0, "1")),
		netOf(2, slices.Repeat([]api.Part{ohms(0, 1, "1")}, api.MaxParts)...),
	} {
		if f := Check(n); f != (api.Fault{}) {
			t.Errorf("Check(%v): %v", n, f)
		}
	}
}

func TestPartsThatAreNoResistors(t *testing.T) {
	for _, other := range []api.Part{
		part(api.L, 0, 1, "1"), part(api.C, 0, 1, "1"), part(api.V, 0, 1, "1"), part(api.I, 0, 1, "1"),
		led(api.E, 0, 1, 1, 0, "1"), led(api.G, 0, 1, 1, 0, "1"), part(api.D, 0, 1, ""), part(api.V, 1, 1, "0"), part(api.C, 0, 0, "1"),
	} {
		wantFault(t, netOf(2, other), api.ErrKind, 0)
		wantFault(t, netOf(2, ohms(0, 1, "1"), ohms(0, 0, "2"), other, part(api.L, 0, 1, "1")), api.ErrKind, 2)
		// Chapter 2 is asked first, of all parts.
		wantFault(t, netOf(2, other, ohms(0, 1, "0")), api.ErrValue, 1)
		wantFault(t, netOf(2, other, ohms(0, 1, "1"), ohms(0, 2, "1")), api.ErrNode, 2)
		wantFault(t, netOf(2, other, part(9, 0, 0, "")), api.ErrKind, 1)
		wantFault(t, netOf(2, other, led(api.R, 0, 1, 1, 0, "1")), api.ErrForm, 1)
		wantFault(t, netOf(9, other), api.ErrMany, 0)
	}
}

func TestFaultsOfNets(t *testing.T) {
	for _, nodes := range []int{0, -1, api.MaxNodes + 1, math.MaxInt, math.MinInt} {
		wantFault(t, netOf(nodes), api.ErrMany, 0)
	}
	wantFault(t, api.Net{}, api.ErrMany, 0)
	wantFault(t, netOf(2, slices.Repeat([]api.Part{ohms(0, 1, "1")}, api.MaxParts+1)...), api.ErrMany, 0)
	for code, wrong := range map[api.Errno][]api.Part{
		api.ErrKind:  {part(0, 1, 0, "1"), part(-1, 1, 0, "1"), part(9, 1, 0, "1"), part(math.MaxInt, 9, 9, "0")},
		api.ErrNode:  {ohms(3, 0, "1"), ohms(0, -1, "1"), part(api.V, 0, 3, "1"), led(api.E, 1, 0, 3, 0, "1"), ohms(3, 0, "0")},
		api.ErrValue: {ohms(1, 0, "0"), ohms(1, 0, "-1"), ohms(1, 1, "x"), ohms(1, 0, "1/0"), part(api.L, 1, 0, ""), led(api.R, 1, 0, 1, 0, "0")},
		api.ErrForm:  {led(api.R, 1, 0, 1, 0, "1"), led(api.R, 1, 0, 0, -1, "1"), part(api.D, 1, 0, "1")},
	} {
		for _, p := range wrong {
			wantFault(t, netOf(3, p, part(0, 0, 0, "")), code, 0)
			wantFault(t, netOf(3, ohms(0, 1, "1"), ohms(1, 2, "1"), p, part(0, 0, 0, "")), code, 2)
		}
	}
}

func TestNodesThatAreNone(t *testing.T) {
	for _, n := range []api.Net{netOf(1), netOf(2), triangle("1", "1", "1"), netOf(3, slices.Repeat([]api.Part{ohms(0, 1, "1")}, api.MaxParts)...)} {
		for _, none := range []int{-1, n.Nodes, 99, math.MaxInt, math.MinInt} {
			wantNotBetween(t, n, none, 0, api.ErrNode, len(n.Parts))
			wantNotBetween(t, n, none, none, api.ErrNode, len(n.Parts))
			wantNotBetween(t, n, 0, none, api.ErrNode, len(n.Parts)+1)
			wantNoWalk(t, n, none, 0, api.ErrNode, len(n.Parts))
			wantNoWalk(t, n, none, none, api.ErrNode, len(n.Parts))
			wantNoWalk(t, n, 0, none, api.ErrNode, len(n.Parts)+1)
		}
	}
}

// P4.2

func TestWeight(t *testing.T) {
	wantWeight(t, triangle("1", "1", "1"), "3")
	wantWeight(t, triangle("2", "3", "5"), "1/3") // 1/6 + 1/10 + 1/15
	wantWeight(t, triangle("1/2", "1/3", "04/20"), "31")
	wantWeight(t, netOf(2, ohms(1, 0, "7/3")), "3/7")
	wantWeight(t, netOf(3, ohms(1, 0, "2"), ohms(1, 2, "5")), "1/10")
	// One node, with nothing, or with parts to itself.
	wantWeight(t, netOf(1), "1")
	wantWeight(t, netOf(1, ohms(0, 0, "7"), ohms(0, 0, "1/7")), "1")
	// What isn't joined.
	for nodes := 2; nodes <= api.MaxNodes; nodes++ {
		wantWeight(t, netOf(nodes), "0")
		wantWeight(t, netOf(nodes, ohms(nodes-1, nodes-1, "1")), "0")
	}
	wantWeight(t, netOf(4, triangle("1", "1", "1").Parts...), "0")
	wantWeight(t, netOf(4, ohms(1, 2, "1"), ohms(2, 3, "1"), ohms(3, 1, "1")), "0")
	wantWeight(t, netOf(4, ohms(0, 2, "1"), ohms(1, 3, "1")), "0")
	// Side by side each is a tree of its own.
	wantWeight(t, netOf(2, ohms(0, 1, "2"), ohms(1, 0, "3"), ohms(0, 1, "6"), ohms(1, 1, "1/100")), "1")
	wantWeight(t, netOf(2, slices.Repeat([]api.Part{ohms(0, 1, "1")}, api.MaxParts)...), "16")
}

func TestWeightOfCompleteNets(t *testing.T) {
	// Cayley: so many nodes, each joined to each, have nodes to the power of nodes less two trees.
	for nodes, want := range []api.Q{2: "1", 3: "3", 4: "16", 5: "125", 6: "1296"} {
		n := netOf(nodes)
		for a := range nodes {
			for b := range a {
				n.Parts = append(n.Parts, ohms(a, b, "1"))
			}
		}
		if nodes >= 2 && len(n.Parts) <= api.MaxParts {
			wantWeight(t, n, want)
		}
	}
}

func TestBetween(t *testing.T) {
	for _, b := range []int{1, 2} {
		wantBetween(t, triangle("1", "1", "1"), 0, b, "2/3")
	}
	wantBetween(t, netOf(3, ohms(1, 0, "2/7"), ohms(1, 2, "5")), 0, 2, "37/7")
	wantBetween(t, netOf(2, ohms(0, 1, "2"), ohms(1, 0, "3"), ohms(0, 1, "6")), 0, 1, "1")
	// Wheatstone's bridge, in balance and not.
	bridge := func(last api.Q) api.Net {
		return netOf(4, ohms(3, 1, "1"), ohms(3, 2, "2"), ohms(1, 0, "2"), ohms(2, 0, last), ohms(1, 2, "7"))
	}
	wantBetween(t, bridge("4"), 0, 3, "2")
	wantBetween(t, bridge("5"), 0, 3, "191/91")
	// A node to itself: 0, even where nothing is.
	for node := range 3 {
		wantBetween(t, triangle("1", "2", "3"), node, node, "0")
		wantBetween(t, netOf(3), node, node, "0")
		wantBetween(t, netOf(3, ohms(node, node, "1")), node, node, "0")
	}
}

func TestBetweenIslands(t *testing.T) {
	// No parts lead from 3 or 4 to the others.
	n := netOf(6, ohms(0, 1, "1"), ohms(1, 2, "1"), ohms(2, 0, "1"), ohms(3, 4, "5"), ohms(4, 3, "5"), ohms(5, 5, "1"))
	for _, ends := range [][2]int{{0, 3}, {3, 0}, {4, 2}, {1, 5}, {5, 1}, {5, 4}} {
		wantNotBetween(t, n, ends[0], ends[1], api.ErrNone, 0)
	}
	wantNotBetween(t, netOf(2), 0, 1, api.ErrNone, 0)
	wantNotBetween(t, netOf(2, ohms(0, 0, "1"), ohms(1, 1, "1")), 1, 0, api.ErrNone, 0)
	// Of what isn't joined to them nothing counts, be the ground there or not.
	wantBetween(t, n, 0, 1, "2/3")
	wantBetween(t, n, 3, 4, "5/2")
}

// P4.3

func TestWalk(t *testing.T) {
	wantWalk(t, triangle("1", "1", "1"), 0, 1, "1 0 1/2")
	wantWalk(t, triangle("1", "2", "3"), 0, 1, "1 0 2/5")
	wantWalk(t, triangle("1", "2", "3"), 2, 0, "0 1/3 1")
	// Along a row of resistors it is as volts are.
	row := netOf(5, ohms(0, 1, "1"), ohms(1, 2, "2"), ohms(3, 2, "3"), ohms(3, 4, "4"))
	wantWalk(t, row, 4, 0, "0 1/10 3/10 3/5 1")
	wantWalk(t, row, 0, 4, "1 9/10 7/10 2/5 0")
	// Behind a there is no way but to a.
	wantWalk(t, row, 1, 3, "1 1 3/5 0 0")
	wantWalk(t, netOf(2, ohms(0, 1, "9")), 1, 0, "0 1")
	// Parts side by side are gone along together, those from a node to itself not at all.
	wantWalk(t, netOf(3, ohms(0, 2, "1"), ohms(2, 0, "1"), ohms(2, 1, "1"), ohms(2, 2, "1/9"), ohms(0, 0, "1")), 0, 1, "1 0 2/3")
}

func TestWalkThatComesToNeither(t *testing.T) {
	wantWalk(t, netOf(3), 0, 2, "1 0 0")
	wantWalk(t, netOf(2), 1, 0, "0 1")
	wantWalk(t, netOf(4, ohms(1, 1, "1")), 3, 2, "0 0 0 1")
	wantWalk(t, netOf(6, ohms(0, 1, "1"), ohms(2, 3, "1"), ohms(3, 4, "1")), 0, 1, "1 0 0 0 0 0")
	wantWalk(t, netOf(6, ohms(0, 1, "1"), ohms(2, 3, "1"), ohms(3, 4, "1")), 3, 0, "0 0 1 1 1 0")
	wantWalk(t, netOf(6, ohms(0, 1, "1"), ohms(2, 3, "1"), ohms(3, 4, "1")), 2, 4, "0 0 1 1/2 0 0")
}

func TestWalkFromANodeToItself(t *testing.T) {
	for node := range 3 {
		wantNoWalk(t, triangle("1", "1", "1"), node, node, api.ErrForm, 0)
		wantNoWalk(t, netOf(3), node, node, api.ErrForm, 0)
	}
	wantNoWalk(t, netOf(1), 0, 0, api.ErrForm, 0)
}

func TestLongValues(t *testing.T) {
	long := api.Q(strings.Repeat("7", api.MaxText))
	n := netOf(3, ohms(0, 1, long), ohms(1, 2, long+"/3"))
	wantWeight(t, netOf(2, ohms(0, 1, long)), "1/"+long)
	wantBetween(t, netOf(2, ohms(0, 1, long), ohms(0, 1, "1/"+long)), 0, 0, "0")
	wantBetween(t, netOf(2, ohms(0, 1, "3/"+long), ohms(0, 1, "3/"+long), ohms(0, 1, "3/"+long)), 1, 0, "1/"+long)
	wantWalk(t, n, 0, 2, "1 1/4 0")
}
