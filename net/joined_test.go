package net

import (
	"math/rand"
	"slices"
	"testing"

	"voltaic/api"
)

// reached goes along those parts from a node on: another way than by joining.
func reached(n api.Net, parts []int, from int) []bool {
	out := make([]bool, n.Nodes)
	out[from] = true
	for range n.Nodes {
		for _, i := range parts {
			p := n.Parts[i]
			out[p.A], out[p.B] = out[p.A] || out[p.B], out[p.A] || out[p.B]
		}
	}
	return out
}

func numbers(below int) []int {
	var out []int
	for i := range below {
		out = append(out, i)
	}
	return out
}

func sameList(t *testing.T, what string, n api.Net, got, want []int, f api.Fault) {
	t.Helper()
	if !slices.Equal(got, want) || f != (api.Fault{}) {
		t.Errorf("%s of %v: %v, %v, want %v", what, n, got, f, want)
	}
}

func sameLists(t *testing.T, what string, n api.Net, got, want [][]int, f api.Fault) {
	t.Helper()
	if !slices.EqualFunc(got, want, slices.Equal[[]int]) || f != (api.Fault{}) {
		t.Errorf("%s of %v: %v, %v, want %v", what, n, got, f, want)
	}
}

type known struct {
	n             api.Net
	islands, tree []int
	loops, cuts   [][]int
}

func knownNets() []known {
	return []known{
		{netOf(1), []int{0}, nil, nil, nil},
		{netOf(3), []int{0, 1, 2}, nil, nil, nil},
		{netOf(1, part(api.R, 0, 0, "1")), []int{0}, nil, [][]int{{1}}, nil},
		{netOf(4, part(api.R, 3, 1, "1")), []int{0, 1, 2, 1}, []int{0}, nil, [][]int{{1}}},
		{ // a triangle, around which all parts go
			netOf(3, good(api.R), part(api.L, 1, 2, "1"), part(api.V, 2, 0, "1")),
			[]int{0, 0, 0}, []int{0, 1}, [][]int{{1, 1, 1}}, [][]int{{1, 0, -1}, {0, 1, -1}},
		},
		{ // the same, one part the other way
			netOf(3, good(api.R), part(api.L, 2, 1, "1"), part(api.V, 2, 0, "1")),
			[]int{0, 0, 0}, []int{0, 1}, [][]int{{1, -1, 1}}, [][]int{{1, 0, -1}, {0, 1, 1}},
		},
		{ // several between the same nodes, to and fro, and one from a node to itself ahead of them
			netOf(2, part(api.I, 1, 1, "1"), part(api.R, 1, 0, "1"), part(api.D, 0, 1, ""), part(api.C, 1, 0, "1")),
			[]int{0, 0}, []int{1}, [][]int{{1, 0, 0, 0}, {0, 1, 1, 0}, {0, -1, 0, 1}}, [][]int{{0, 1, -1, 1}},
		},
		{ // two islands; what leads a part doesn't join
			netOf(5, led(api.E, 4, 2, 0, 1, "1"), part(api.R, 3, 1, "1"), led(api.G, 2, 4, 1, 3, "1")),
			[]int{0, 1, 2, 1, 2}, []int{0, 1}, [][]int{{1, 0, 1}}, [][]int{{1, 0, -1}, {0, 1, 0}},
		},
		{ // islands whose least nodes come last
			netOf(4, part(api.R, 3, 2, "1"), part(api.R, 1, 0, "1"), part(api.R, 2, 1, "1")),
			[]int{0, 0, 0, 0}, []int{0, 1, 2}, nil, [][]int{{1, 0, 0}, {0, 1, 0}, {0, 0, 1}},
		},
	}
}

// P2.2

func TestIslandsAndTree(t *testing.T) {
	for _, k := range knownNets() {
		l, f := Islands(k.n)
		sameList(t, "Islands", k.n, l, k.islands, f)
		l, f = Tree(k.n)
		sameList(t, "Tree", k.n, l, k.tree, f)
	}
}

func TestIslandsAndTreeOfSome(t *testing.T) {
	r := rand.New(rand.NewSource(1))
	for range 2000 {
		n := someNet(r)
		var islands, tree []int
		for node := range n.Nodes {
			islands = append(islands, slices.Index(reached(n, numbers(len(n.Parts)), node), true))
		}
		for i, p := range n.Parts {
			if !reached(n, numbers(i), p.A)[p.B] {
				tree = append(tree, i)
			}
		}
		l, f := Islands(n)
		sameList(t, "Islands", n, l, islands, f)
		l, f = Tree(n)
		sameList(t, "Tree", n, l, tree, f)
	}
}

// P2.3

func TestLoopsAndCuts(t *testing.T) {
	for _, k := range knownNets() {
		l, f := Loops(k.n)
		sameLists(t, "Loops", k.n, l, k.loops, f)
		l, f = Cuts(k.n)
		sameLists(t, "Cuts", k.n, l, k.cuts, f)
	}
}

func TestLoopsOfSome(t *testing.T) {
	r := rand.New(rand.NewSource(2))
	for range 2000 {
		n := someNet(r)
		tree, _ := Tree(n)
		loops, f := Loops(n)
		if len(loops) != len(n.Parts)-len(tree) || f != (api.Fault{}) {
			t.Fatalf("Loops of %v: %v, %v", n, loops, f)
		}
		at := 0
		for i := range n.Parts {
			if !slices.Contains(tree, i) {
				wantLoop(t, n, tree, i, loops[at])
				at++
			}
		}
	}
}

// wantLoop: a tree's parts and one more have one loop at most, up to how often and which way it is gone around.
func wantLoop(t *testing.T, n api.Net, tree []int, closing int, loop []int) {
	t.Helper()
	flow := make([]int, n.Nodes)
	for i, way := range loop {
		if i != closing && !slices.Contains(tree, i) && way != 0 {
			t.Fatalf("%v: the loop of %d goes through %d: %v", n, closing, i, loop)
		}
		flow[n.Parts[i].A] -= way
		flow[n.Parts[i].B] += way
	}
	if len(loop) != len(n.Parts) || loop[closing] != 1 || slices.ContainsFunc(flow, func(f int) bool { return f != 0 }) {
		t.Fatalf("%v: the loop of %d: %v", n, closing, loop)
	}
}

func TestCutsOfSome(t *testing.T) {
	r := rand.New(rand.NewSource(3))
	for range 2000 {
		n := someNet(r)
		tree, _ := Tree(n)
		var want [][]int
		for i, cut := range tree {
			side := reached(n, slices.Concat(tree[:i], tree[i+1:]), n.Parts[cut].A)
			row := make([]int, len(n.Parts))
			for k, p := range n.Parts {
				switch {
				case side[p.A] && !side[p.B]:
					row[k] = 1
				case side[p.B] && !side[p.A]:
					row[k] = -1
				}
			}
			want = append(want, row)
		}
		cuts, f := Cuts(n)
		sameLists(t, "Cuts", n, cuts, want, f)
	}
}

func TestLoopsAndCutsHaveNothingInCommon(t *testing.T) {
	r := rand.New(rand.NewSource(4))
	for range 2000 {
		n := someNet(r)
		loops, _ := Loops(n)
		cuts, _ := Cuts(n)
		for _, loop := range loops {
			for _, cut := range cuts {
				sum := 0
				for i := range n.Parts {
					sum += loop[i] * cut[i]
				}
				if sum != 0 {
					t.Fatalf("%v: %v and %v have %d in common", n, loop, cut, sum)
				}
			}
		}
	}
}
