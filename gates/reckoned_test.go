package gates

import (
	"math/rand"
	"reflect"
	"slices"
	"testing"

	"voltaic/api"
)

// trees are all expressions of just so many nodes.
func trees(nodes, k int) []api.Way {
	var out []api.Way
	if nodes == 1 {
		for in := range k {
			out = append(out, yes(in), not(in))
		}
		return out
	}
	for _, list := range lists(nodes-1, k) {
		out = append(out, series(list...), parallel(list...))
	}
	return out
}

// lists are all lists of expressions that have just so many nodes together.
func lists(nodes, k int) [][]api.Way {
	if nodes == 0 {
		return [][]api.Way{nil}
	}
	var out [][]api.Way
	for first := 1; first <= nodes; first++ {
		for _, w := range trees(first, k) {
			for _, others := range lists(nodes-first, k) {
				out = append(out, append([]api.Way{w}, others...))
			}
		}
	}
	return out
}

// someTree has so many nodes, its switches made one by one.
func someTree(r *rand.Rand, nodes int, newSwitch func() api.Way) api.Way {
	if nodes == 1 {
		return newSwitch()
	}
	w := api.Way{Kind: api.Series + r.Intn(2)}
	for left := nodes - 1; left > 0; {
		most := min(left, 1+r.Intn(left))
		w.Args = append(w.Args, someTree(r, most, newSwitch))
		left -= most
	}
	return w
}

func anySwitch(r *rand.Rand, k int) func() api.Way {
	return func() api.Way { return api.Way{Kind: api.Switch, In: r.Intn(k), Not: r.Intn(2) == 0} }
}

// eachSmall goes through all small expressions, and through some great ones.
func eachSmall(do func(w api.Way, k int)) {
	for k, most := range []int{0, 6, 5, 4} {
		for nodes := 1; nodes <= most; nodes++ {
			for _, w := range trees(nodes, k) {
				do(w, k)
			}
		}
	}
	r := rand.New(rand.NewSource(1))
	for range 300 {
		k := 1 + r.Intn(api.MaxInputs)
		do(someTree(r, 1+r.Intn(api.MaxTrees), anySwitch(r, k)), k)
	}
}

// eachRow goes through all rows of 0, 1 and 2, in a list that is written over.
func eachRow(k int, do func(x []int)) {
	x := make([]int, k)
	for {
		do(x)
		in := 0
		for in < k && x[in] == 2 {
			x[in] = 0
			in++
		}
		if in == k {
			return
		}
		x[in]++
	}
}

// level is what an expression is by the least and the greatest: 0, 1 (not known), 2 (leads).
func level(w api.Way, x []int) int {
	if w.Kind == api.Switch {
		v := []int{0, 2, 1}[x[w.In]]
		if w.Not {
			v = 2 - v
		}
		return v
	}
	var l []int
	for _, below := range w.Args {
		l = append(l, level(below, x))
	}
	if w.Kind == api.Series {
		return slices.Min(l)
	}
	return slices.Max(l)
}

// valueOf is Closed, by levels.
func valueOf(w api.Way, x []int) int { return []int{0, 2, 1}[level(w, x)] }

func TestClosedOfAllSmall(t *testing.T) {
	eachSmall(func(w api.Way, k int) {
		eachRow(k, func(x []int) { wantClosed(t, w, x, valueOf(w, x)) })
	})
}

// column has the rows in which an expression leads, all at once.
func column(w api.Way, k int) uint64 {
	if w.Kind == api.Switch {
		all := []uint64{0xaaaaaaaaaaaaaaaa, 0xcccccccccccccccc, 0xf0f0f0f0f0f0f0f0, 0xff00ff00ff00ff00, 0xffff0000ffff0000, 0xffffffff00000000}[w.In]
		if w.Not {
			all = ^all
		}
		return all & rows(k)
	}
	out := column(w.Args[0], k)
	for _, below := range w.Args[1:] {
		if w.Kind == api.Series {
			out &= column(below, k)
		} else {
			out |= column(below, k)
		}
	}
	return out
}

// rows has a bit for each row.
func rows(k int) uint64 { return 1<<(1<<k) - 1 }

func TestTableOfAllSmall(t *testing.T) {
	eachSmall(func(w api.Way, k int) { wantTable(t, w, k, column(w, k)) })
	if rows(api.MaxInputs) != 1<<64-1 || rows(0) != 1 {
		t.Error("rows aren't counted right")
	}
}

// Each row of the table is what Closed tells of it.
func TestTableIsClosed(t *testing.T) {
	eachSmall(func(w api.Way, k int) {
		table, _ := Table(w, k)
		for row := range 1 << k {
			var x []int
			for in := range k {
				x = append(x, row>>in%2)
			}
			wantClosed(t, w, x, int(table>>row%2))
		}
	})
}

// risksOf goes through pairs of inputs that differ in one that isn't known.
func risksOf(w api.Way, k int) [][2]int {
	var out [][2]int
	eachRow(k, func(x []int) {
		in := slices.Index(x, 2)
		if in < 0 || slices.Contains(x[in+1:], 2) || valueOf(w, x) != 2 {
			return
		}
		low, high := slices.Clone(x), slices.Clone(x)
		low[in], high[in] = 0, 1
		if valueOf(w, low) == 1 && valueOf(w, high) == 1 {
			out = append(out, [2]int{number(low), number(high)})
		}
	})
	slices.SortFunc(out, func(a, b [2]int) int { return slices.Compare(a[:], b[:]) })
	return out
}

func number(x []int) int {
	out := 0
	for in, v := range x {
		out += v << in
	}
	return out
}

// In one row's pairs, the lower the input, the lower the second row, so that sorted pairs are in the order that is asked.
func TestRisksOfAllSmall(t *testing.T) {
	eachSmall(func(w api.Way, k int) { wantRisks(t, w, k, risksOf(w, k)...) })
}

// P14.4

// outcomes are the values that Closed tells for all that inputs which aren't known may be.
func outcomes(w api.Way, x []int) []int {
	in := slices.Index(x, 2)
	if in < 0 {
		v, _ := Closed(w, x)
		return []int{v}
	}
	low, high := slices.Clone(x), slices.Clone(x)
	low[in], high[in] = 0, 1
	l := append(outcomes(w, low), outcomes(w, high)...)
	slices.Sort(l)
	return slices.Compact(l)
}

// What is known with some inputs not known is so whatever they are.
func TestKnownIsSoWhateverTheOthersAre(t *testing.T) {
	eachSmall(func(w api.Way, k int) {
		if k > 4 {
			return
		}
		eachRow(k, func(x []int) {
			if v, _ := Closed(w, x); v != 2 && !slices.Equal(outcomes(w, x), []int{v}) {
				t.Errorf("Closed(%v, %v): %v, but %v", w, x, v, outcomes(w, x))
			}
		})
	})
}

// someOnce has so many switches, each of another input.
func someOnce(r *rand.Rand, switches int) api.Way {
	inputs := r.Perm(api.MaxInputs)
	var l []api.Way
	for _, in := range inputs[:switches] {
		l = append(l, api.Way{Kind: api.Switch, In: in, Not: r.Intn(2) == 0})
	}
	for len(l) > 1 || r.Intn(3) > 0 {
		first := r.Intn(len(l))
		behind := min(len(l), first+1+r.Intn(3))
		w := api.Way{Kind: api.Series + r.Intn(2), Args: slices.Clone(l[first:behind])}
		l = slices.Replace(l, first, behind, w)
	}
	return l[0]
}

// Where each input stands in one switch at most, only what isn't the same for all of them isn't known.
func TestNotKnownIsNotTheSame(t *testing.T) {
	r := rand.New(rand.NewSource(2))
	for i := range 60 {
		w := someOnce(r, 1+i%api.MaxInputs)
		for len(nodesOf(w)) > api.MaxTrees {
			w = someOnce(r, 1+i%api.MaxInputs)
		}
		eachRow(api.MaxInputs, func(x []int) {
			want := outcomes(w, x)
			if len(want) > 1 {
				want = []int{2}
			}
			wantClosed(t, w, x, want[0])
		})
		if l, _ := Risks(w, api.MaxInputs); l != nil {
			t.Errorf("Risks(%v): %v, want none", w, l)
		}
	}
}

// Dual's table is the opposite of the table, and Dual of Dual is what it was made of.
func TestDualIsTheOpposite(t *testing.T) {
	eachSmall(func(w api.Way, k int) {
		table, _ := Table(w, k)
		d, e := Dual(w, k)
		if e != api.OK {
			t.Errorf("Dual(%v, %d): %v", w, k, e)
		}
		wantTable(t, d, k, rows(k)&^table)
		wantDual(t, d, k, w)
	})
}

// Dual is the opposite for inputs that aren't known, too.
func TestDualIsTheOppositeWhereNotKnown(t *testing.T) {
	eachSmall(func(w api.Way, k int) {
		d, _ := Dual(w, k)
		eachRow(k, func(x []int) { wantClosed(t, d, x, []int{1, 0, 2}[valueOf(w, x)]) })
	})
}

// P14.1, reckoned

// nodesOf lists an expression's nodes in the order in which they are looked at.
func nodesOf(w api.Way) []api.Way {
	out := []api.Way{w}
	for _, below := range w.Args {
		out = append(out, nodesOf(below)...)
	}
	return out
}

// firstFault is Check, from the list of all nodes.
func firstFault(w api.Way, k int) api.Errno {
	for i, node := range nodesOf(w) {
		isSwitch, has := node.Kind == api.Switch, len(node.Args) > 0
		for _, l := range []struct {
			wrong bool
			e     api.Errno
		}{
			{node.Kind < 1 || node.Kind > 3, api.ErrKind},
			{isSwitch == has || !isSwitch && (node.In != 0 || node.Not), api.ErrForm},
			{isSwitch && (node.In < 0 || node.In > k-1), api.ErrNode},
			{i+1 > api.MaxTrees, api.ErrMany},
		} {
			if l.wrong {
				return l.e
			}
		}
	}
	return api.OK
}

// spoil makes something wrong with some nodes.
func spoil(r *rand.Rand, w *api.Way, often int) {
	if r.Intn(often) == 0 {
		switch r.Intn(6) {
		case 0:
			w.Kind = r.Intn(6) - 1
		case 1:
			w.In = r.Intn(10) - 2
		case 2:
			w.Not = !w.Not
		case 3:
			w.Args = nil
		case 4:
			w.Args = append(w.Args, yes(0))
		default:
			w.Kind = []int{api.Switch, api.Series, api.Parallel}[r.Intn(3)]
		}
	}
	for i := range w.Args {
		spoil(r, &w.Args[i], often)
	}
}

func TestCheckOfSpoiled(t *testing.T) {
	r := rand.New(rand.NewSource(3))
	often := map[api.Errno]int{}
	for range 20000 {
		k := 1 + r.Intn(api.MaxInputs)
		w := someTree(r, 1+r.Intn(api.MaxTrees+10), anySwitch(r, k))
		spoil(r, &w, 5+r.Intn(200))
		k -= r.Intn(2)
		want := firstFault(w, k)
		often[want]++
		if want == api.OK {
			wantRight(t, w, k)
		} else {
			wantWrong(t, w, k, want)
		}
	}
	for _, e := range []api.Errno{api.OK, api.ErrKind, api.ErrForm, api.ErrNode, api.ErrMany} {
		if often[e] < 200 {
			t.Errorf("only %d of %v", often[e], e)
		}
	}
}

// What is made is as it is said to be: each once, of so many nodes.
func TestAllSmallAreEnough(t *testing.T) {
	for k, most := range []int{0, 5, 4, 3} {
		var l []api.Way
		for nodes := 1; nodes <= most; nodes++ {
			for _, w := range trees(nodes, k) {
				if len(nodesOf(w)) != nodes || slices.ContainsFunc(l, func(o api.Way) bool { return reflect.DeepEqual(o, w) }) {
					t.Errorf("%v isn't one more of %d nodes", w, nodes)
				}
				wantRight(t, w, k)
				l = append(l, w)
			}
		}
	}
}
