package trees

import (
	"slices"

	"voltaic/api"
	"voltaic/frac"
)

// mesh is a net some of whose nodes are taken out, each by parts between its neighbours that do what it did (a star is made a mesh).
//
// In a forest each node that was taken out is joined to just one that is left: leads[i][k] weighs those that join i and k besides, and no others that are left (Kirchhoff). So i leads to k as well as leads[i][k] over forests says.
//
// So that nothing comes below a bar ahead of the answer, all is whole: what is told of a node's parts is multiplied by the node's scale, so that forests is so by the scales of all nodes that were taken out, leads[i] by that of i besides.
type mesh struct {
	left    []int
	leads   [][]frac.F
	forests frac.F
	scales  []frac.F
}

// allBut is the mesh of a net with which nothing is wrong, all nodes but some taken out. What leads nowhere stays: nothing can be done by parts between no neighbours.
func allBut(n api.Net, kept ...int) mesh {
	m := meshOf(n)
	for node := range n.Nodes {
		if !slices.Contains(kept, node) {
			m.takeOut(node)
		}
	}
	return m
}

// meshOf has nothing taken out. Parts from a node to itself aren't in it.
func meshOf(n api.Net) mesh {
	m := mesh{forests: frac.Of("1")}
	for node := range n.Nodes {
		m.left = append(m.left, node)
		m.leads = append(m.leads, make([]frac.F, n.Nodes))
		m.scales = append(m.scales, scaleOf(n, node))
	}
	add := func(from, to int, ohms frac.F) {
		m.leads[from][to] = m.leads[from][to].Plus(m.scales[from].Over(ohms))
	}
	for _, p := range n.Parts {
		if p.A != p.B {
			add(p.A, p.B, frac.Of(p.Value))
			add(p.B, p.A, frac.Of(p.Value))
		}
	}
	return m
}

// scaleOf is the least that makes 1 over the ohms of all parts of a node whole.
func scaleOf(n api.Net, node int) frac.F {
	scale := frac.Of("1")
	for _, p := range n.Parts {
		if p.A == node || p.B == node {
			scale = scale.Times(scale.Over(frac.Of(p.Value)).Bar())
		}
	}
	return scale
}

// takeOut takes a node out, unless it leads nowhere.
func (m *mesh) takeOut(node int) {
	all := frac.F{}
	for _, to := range m.left {
		all = all.Plus(m.leads[node][to])
	}
	if all.IsZero() {
		return
	}
	m.left = slices.DeleteFunc(m.left, func(k int) bool { return k == node })
	for _, from := range m.left {
		for _, to := range m.left {
			if from != to {
				past := all.Times(m.leads[from][to])
				through := m.leads[from][node].Times(m.leads[node][to])
				m.leads[from][to] = past.Plus(through).Over(m.forests)
			}
		}
	}
	m.forests = all
}
