package net

import "voltaic/api"

// islands tells of each node the least node that is joined to it.
type islands []int

// apart is where nothing is joined.
func apart(nodes int) islands {
	out := make(islands, nodes)
	for i := range out {
		out[i] = i
	}
	return out
}

func (l islands) join(a, b int) {
	low, high := min(l[a], l[b]), max(l[a], l[b])
	for i, least := range l {
		if least == high {
			l[i] = low
		}
	}
}

// Islands tells of each node the least node that is joined to it by parts.
func Islands(n api.Net) ([]int, api.Fault) {
	if f := Check(n); f.Code != api.OK {
		return nil, f
	}
	out := apart(n.Nodes)
	for _, p := range n.Parts {
		out.join(p.A, p.B)
	}
	return out, api.Fault{}
}

// Tree tells the parts, each of which joins what those ahead of it don't.
func Tree(n api.Net) ([]int, api.Fault) {
	if f := Check(n); f.Code != api.OK {
		return nil, f
	}
	var out []int
	l := apart(n.Nodes)
	for i, p := range n.Parts {
		if l[p.A] != l[p.B] {
			l.join(p.A, p.B)
			out = append(out, i)
		}
	}
	return out, api.Fault{}
}

// Loops tells of each part that isn't in Tree the loop that it closes.
func Loops(n api.Net) ([][]int, api.Fault) {
	tree, f := Tree(n)
	if f.Code != api.OK {
		return nil, f
	}
	cuts := cutsOf(n, tree)
	inTree := make([]bool, len(n.Parts))
	for _, t := range tree {
		inTree[t] = true
	}
	var out [][]int
	for i := range n.Parts {
		if !inTree[i] {
			out = append(out, loop(n, i, tree, cuts))
		}
	}
	return out, api.Fault{}
}

// loop needs no walk: it has nothing in common with a cut, and of the parts of both only two can be in it: the one that closes it and the one of the tree.
func loop(n api.Net, part int, tree []int, cuts [][]int) []int {
	out := make([]int, len(n.Parts))
	for i, t := range tree {
		out[t] = -cuts[i][part]
	}
	out[part] = 1
	return out
}

// Cuts tells of each part of Tree what joins the two sides into which the tree falls without it.
func Cuts(n api.Net) ([][]int, api.Fault) {
	tree, f := Tree(n)
	if f.Code != api.OK {
		return nil, f
	}
	return cutsOf(n, tree), api.Fault{}
}

func cutsOf(n api.Net, tree []int) [][]int {
	var out [][]int
	for _, t := range tree {
		side := sideOf(n, tree, t)
		out = append(out, tellEach(n, func(p api.Part) int { return side[p.A] - side[p.B] }))
	}
	return out
}

// sideOf has 1 of the nodes that the tree without one of its parts leaves joined to that part's A, 0 of the others.
func sideOf(n api.Net, tree []int, without int) []int {
	l := apart(n.Nodes)
	for _, t := range tree {
		if t != without {
			l.join(n.Parts[t].A, n.Parts[t].B)
		}
	}
	out := make([]int, n.Nodes)
	for i, least := range l {
		if least == l[n.Parts[without].A] {
			out[i] = 1
		}
	}
	return out
}

// tellEach asks what is told of each part.
func tellEach(n api.Net, told func(api.Part) int) []int {
	var out []int
	for _, p := range n.Parts {
		out = append(out, told(p))
	}
	return out
}
