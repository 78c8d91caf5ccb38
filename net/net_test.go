package net

import (
	"math"
	"math/rand"
	"reflect"
	"slices"
	"testing"

	"voltaic/api"
)

func part(kind, a, b int, value api.Q) api.Part {
	return api.Part{Kind: kind, A: a, B: b, Value: value}
}

func led(kind, a, b, c, d int, value api.Q) api.Part {
	return api.Part{Kind: kind, A: a, B: b, C: c, D: d, Value: value}
}

func netOf(nodes int, parts ...api.Part) api.Net { return api.Net{Nodes: nodes, Parts: parts} }

// good is a part of that kind with which nothing is wrong, in a net of two nodes or more.
func good(kind int) api.Part {
	if kind == api.D {
		return part(kind, 0, 1, "")
	}
	return part(kind, 0, 1, "1")
}

func resistors(count int) []api.Part { return slices.Repeat([]api.Part{good(api.R)}, count) }

// wantFault asks all of a net's calls, as all of them say Check's fault, and nothing else with it.
func wantFault(t *testing.T, n api.Net, code api.Errno, at int) {
	t.Helper()
	want := api.Fault{Code: code, At: at}
	if f := Check(n); f != want {
		t.Errorf("Check(%v): %v, want %v", n, f, want)
	}
	if f := Linear(n); f != want {
		t.Errorf("Linear(%v): %v, want %v", n, f, want)
	}
	if l, f := Islands(n); f != want || l != nil {
		t.Errorf("Islands(%v): %v, %v, want %v", n, l, f, want)
	}
	if l, f := Tree(n); f != want || l != nil {
		t.Errorf("Tree(%v): %v, %v, want %v", n, l, f, want)
	}
	if l, f := Loops(n); f != want || l != nil {
		t.Errorf("Loops(%v): %v, %v, want %v", n, l, f, want)
	}
	if l, f := Cuts(n); f != want || l != nil {
		t.Errorf("Cuts(%v): %v, %v, want %v", n, l, f, want)
	}
	if text, f := Print(n); f != want || text != "" {
		t.Errorf("Print(%v): %q, %v, want %v", n, text, f, want)
	}
}

func wantGood(t *testing.T, n api.Net) {
	t.Helper()
	if f := Check(n); f != (api.Fault{}) {
		t.Errorf("Check(%v): %v", n, f)
	}
}

// P2.1

func TestCheckCounts(t *testing.T) {
	for _, nodes := range []int{0, -1, api.MaxNodes + 1, math.MaxInt, math.MinInt} {
		wantFault(t, netOf(nodes), api.ErrMany, 0)
	}
	wantFault(t, api.Net{}, api.ErrMany, 0)
	wantFault(t, netOf(2, resistors(api.MaxParts+1)...), api.ErrMany, 0)
	wantGood(t, netOf(1))
	wantGood(t, api.Net{Nodes: 1, Parts: []api.Part{}})
	wantGood(t, netOf(api.MaxNodes))
	wantGood(t, netOf(2, resistors(api.MaxParts)...))
}

func TestCheckKinds(t *testing.T) {
	for _, kind := range []int{0, -1, api.D + 1, math.MaxInt, math.MinInt} {
		wantFault(t, netOf(2, part(kind, 0, 1, "1")), api.ErrKind, 0)
	}
	for kind := api.R; kind <= api.D; kind++ {
		wantGood(t, netOf(2, good(kind)))
	}
}

func TestCheckNodes(t *testing.T) {
	for _, node := range []int{-1, 3, math.MaxInt, math.MinInt} {
		for kind := api.R; kind <= api.G; kind++ {
			wantFault(t, netOf(3, part(kind, node, 0, "1")), api.ErrNode, 0)
			wantFault(t, netOf(3, part(kind, 0, node, "1")), api.ErrNode, 0)
		}
		for _, kind := range []int{api.E, api.G} {
			wantFault(t, netOf(3, led(kind, 0, 1, node, 2, "1")), api.ErrNode, 0)
			wantFault(t, netOf(3, led(kind, 0, 1, 2, node, "1")), api.ErrNode, 0)
		}
		if f := Check(netOf(3, part(api.D, 0, node, ""))); f.Code != api.ErrNode {
			t.Errorf("a diode to %d: %v", node, f)
		}
	}
	wantGood(t, netOf(3, led(api.E, 2, 2, 2, 2, "1"), led(api.G, 2, 2, 2, 2, "1"), part(api.R, 2, 2, "1"), part(api.D, 2, 2, "")))
}

func TestCheckValues(t *testing.T) {
	for _, value := range []api.Q{"", "0", "-0", "0/5", "-1", "-1/2", "1/0", "x", "1.5", "1kΩ"} {
		for _, kind := range []int{api.R, api.L, api.C} {
			wantFault(t, netOf(2, part(kind, 0, 1, value)), api.ErrValue, 0)
		}
		for _, kind := range []int{api.V, api.I, api.E, api.G} {
			wantGood(t, netOf(2, part(kind, 0, 1, value)))
		}
	}
	for _, value := range []api.Q{"1/1000000000000000000000000", "007", "1000000000000000000000000"} {
		wantGood(t, netOf(2, part(api.R, 0, 1, value), part(api.L, 0, 1, value), part(api.C, 0, 1, value)))
	}
}

func TestCheckForms(t *testing.T) {
	for _, kind := range []int{api.R, api.L, api.C, api.V, api.I} {
		for _, other := range []int{1, -1, 99} {
			wantFault(t, netOf(2, led(kind, 0, 1, other, 0, "1")), api.ErrForm, 0)
			wantFault(t, netOf(2, led(kind, 0, 1, 0, other, "1")), api.ErrForm, 0)
		}
	}
	for _, diode := range []api.Part{part(api.D, 0, 1, "1"), part(api.D, 0, 1, "0"), led(api.D, 0, 1, 1, 0, ""), led(api.D, 0, 1, 0, 1, "")} {
		if f := Check(netOf(2, diode)); f != (api.Fault{Code: api.ErrForm}) {
			t.Errorf("%v: %v", diode, f)
		}
	}
}

// What is told first of a part, and of which part.
func TestCheckOrder(t *testing.T) {
	kind := led(99, 9, 9, 9, 9, "")
	node := led(api.R, 0, 9, 9, 9, "0")
	value := led(api.C, 0, 1, 9, 9, "0")
	form := led(api.L, 0, 1, 9, 9, "1")
	for _, c := range []struct {
		p    api.Part
		code api.Errno
	}{{kind, api.ErrKind}, {node, api.ErrNode}, {value, api.ErrValue}, {form, api.ErrForm}} {
		for _, behind := range []api.Part{kind, node, value, form} {
			wantFault(t, netOf(2, c.p, behind), c.code, 0)
			wantFault(t, netOf(2, good(api.V), good(api.G), c.p, behind), c.code, 2)
		}
		wantFault(t, netOf(2, append(resistors(api.MaxParts-1), c.p)...), c.code, api.MaxParts-1)
		wantFault(t, netOf(2, append(resistors(api.MaxParts), c.p)...), api.ErrMany, 0)
		wantFault(t, netOf(0, c.p), api.ErrMany, 0)
	}
}

func TestLinear(t *testing.T) {
	for _, c := range []struct {
		n             api.Net
		check, linear api.Fault
	}{
		{netOf(2, good(api.D)), api.Fault{}, api.Fault{Code: api.ErrKind}},
		{netOf(2, good(api.R), good(api.D), part(0, 0, 1, "")), api.Fault{Code: api.ErrKind, At: 2}, api.Fault{Code: api.ErrKind, At: 1}},
		{netOf(2, good(api.R), led(api.D, 0, 9, 1, 1, "1")), api.Fault{Code: api.ErrNode, At: 1}, api.Fault{Code: api.ErrKind, At: 1}},
		{netOf(2, part(api.R, 0, 1, "0"), good(api.D)), api.Fault{Code: api.ErrValue}, api.Fault{Code: api.ErrValue}},
		{netOf(2, good(api.R), good(api.L), good(api.C), good(api.V), good(api.I), good(api.E), good(api.G)), api.Fault{}, api.Fault{}},
		{netOf(9, good(api.D)), api.Fault{Code: api.ErrMany}, api.Fault{Code: api.ErrMany}},
	} {
		if f := Check(c.n); f != c.check {
			t.Errorf("Check(%v): %v, want %v", c.n, f, c.check)
		}
		if f := Linear(c.n); f != c.linear {
			t.Errorf("Linear(%v): %v, want %v", c.n, f, c.linear)
		}
	}
}

// someNet draws a net with which nothing is wrong; parts from a node to itself, and several between the same nodes, are frequent.
func someNet(r *rand.Rand) api.Net {
	n := api.Net{Nodes: 1 + r.Intn(api.MaxNodes)}
	values := []api.Q{"1", "1/2", "4700", "47/10000000", "100001/1000"}
	for range r.Intn(api.MaxParts + 1) {
		p := api.Part{Kind: api.R + r.Intn(api.D), A: r.Intn(n.Nodes), B: r.Intn(n.Nodes)}
		if p.Kind != api.D {
			p.Value = values[r.Intn(len(values))]
		}
		if p.Kind == api.E || p.Kind == api.G {
			p.C, p.D = r.Intn(n.Nodes), r.Intn(n.Nodes)
		}
		if p.Kind >= api.V && p.Kind <= api.G && r.Intn(3) == 0 {
			p.Value = "-" + p.Value
		}
		n.Parts = append(n.Parts, p)
	}
	return n
}

// What is handed in stays, and the spare room behind it, too; what is answered is no one else's.
func TestNothingIsShared(t *testing.T) {
	r := rand.New(rand.NewSource(4))
	for range 200 {
		n := someNet(r)
		room := append(slices.Clone(n.Parts), part(77, 7, 7, "7"), part(78, 8, 8, "8"))
		before := slices.Clone(room)
		n.Parts = room[:len(n.Parts)]
		for _, call := range []func(api.Net) ([][]int, api.Fault){Loops, Cuts, alone(Islands), alone(Tree)} {
			first, _ := call(n)
			want, _ := call(n)
			for i, l := range first {
				for k := range l[:cap(l)] {
					l[:cap(l)][k] = 1000
				}
				if i+1 < len(first) && !reflect.DeepEqual(first[i+1:], want[i+1:]) {
					t.Fatalf("%v: lists share memory", n)
				}
			}
			if again, _ := call(n); !reflect.DeepEqual(again, want) {
				t.Fatalf("%v: %v, then %v", n, want, again)
			}
		}
		Check(n)
		Linear(n)
		Print(n)
		if !slices.Equal(room, before) {
			t.Fatalf("%v was changed to %v", before, room)
		}
	}
}

func alone(call func(api.Net) ([]int, api.Fault)) func(api.Net) ([][]int, api.Fault) {
	return func(n api.Net) ([][]int, api.Fault) {
		l, f := call(n)
		return [][]int{l}, f
	}
}
