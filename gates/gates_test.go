package gates

import (
	"math"
	"reflect"
	"slices"
	"testing"

	"voltaic/api"
)

func yes(in int) api.Way { return api.Way{Kind: api.Switch, In: in} }

func not(in int) api.Way { return api.Way{Kind: api.Switch, In: in, Not: true} }

func series(l ...api.Way) api.Way { return api.Way{Kind: api.Series, Args: l} }

func parallel(l ...api.Way) api.Way { return api.Way{Kind: api.Parallel, Args: l} }

// deep has one expression below the other, of Series and Parallel by turns, w the last of so many nodes.
func deep(nodes int, w api.Way) api.Way {
	for i := range nodes - 1 {
		if i%2 == 0 {
			w = series(w)
		} else {
			w = parallel(w)
		}
	}
	return w
}

// wide has all but its first node beside each other.
func wide(kind, nodes int) api.Way {
	return api.Way{Kind: kind, Args: slices.Repeat([]api.Way{yes(0)}, nodes-1)}
}

// bushy has so many nodes, three with each Series or Parallel but the first and perhaps the last.
func bushy(nodes int) api.Way {
	w := api.Way{Kind: api.Parallel}
	for left := nodes - 1; left > 0; left -= 3 {
		switch left {
		case 1:
			w.Args = append(w.Args, yes(0))
		case 2:
			w.Args = append(w.Args, series(not(0)))
		default:
			w.Args = append(w.Args, series(yes(0), not(0)))
		}
	}
	return w
}

// either is what leads as the second input where the first is 1, else as the third.
func either() api.Way { return parallel(series(yes(0), yes(1)), series(not(0), yes(2))) }

func wantRight(t *testing.T, w api.Way, k int) {
	t.Helper()
	if e := Check(w, k); e != api.OK {
		t.Errorf("Check(%v, %d): %v", w, k, e)
	}
}

// wantWrong asks all calls for what is wrong with an expression, and that nothing else is told.
func wantWrong(t *testing.T, w api.Way, k int, want api.Errno) {
	t.Helper()
	if e := Check(w, k); e != want {
		t.Errorf("Check(%v, %d): %v, want %v", w, k, e, want)
	}
	if table, e := Table(w, k); table != 0 || e != want {
		t.Errorf("Table(%v, %d): %b, %v, want %v and nothing else", w, k, table, e, want)
	}
	if d, e := Dual(w, k); !reflect.DeepEqual(d, api.Way{}) || e != want {
		t.Errorf("Dual(%v, %d): %v, %v, want %v and nothing else", w, k, d, e, want)
	}
	if l, e := Risks(w, k); l != nil || e != want {
		t.Errorf("Risks(%v, %d): %v, %v, want %v and nothing else", w, k, l, e, want)
	}
	if k < 0 || k > 1000 { // as many inputs can't be handed in
		return
	}
	// What is wrong with w comes ahead of what is wrong with the inputs.
	for _, input := range []int{0, 1, 2, 3, -1} {
		wantNotClosed(t, w, slices.Repeat([]int{input}, k), want)
	}
}

func wantNotClosed(t *testing.T, w api.Way, x []int, want api.Errno) {
	t.Helper()
	if v, e := Closed(w, x); v != 0 || e != want {
		t.Errorf("Closed(%v, %v): %v, %v, want %v and nothing else", w, x, v, e, want)
	}
}

func wantClosed(t *testing.T, w api.Way, x []int, want int) {
	t.Helper()
	if v, e := Closed(w, x); v != want || e != api.OK {
		t.Errorf("Closed(%v, %v): %v, %v, want %v", w, x, v, e, want)
	}
}

// P14.1

func TestCheckHowManyInputs(t *testing.T) {
	for k := 1; k <= api.MaxInputs; k++ {
		wantRight(t, yes(0), k)
		wantRight(t, not(k-1), k)
	}
	for _, k := range []int{-1, -2, -api.MaxInputs, api.MaxInputs + 1, api.MaxInputs + 2, 64, 1000, math.MinInt, math.MaxInt} {
		wantWrong(t, yes(0), k, api.ErrCount)
		wantWrong(t, either(), k, api.ErrCount)
		// Whatever else is wrong.
		wantWrong(t, api.Way{}, k, api.ErrCount)
		wantWrong(t, series(), k, api.ErrCount)
		wantWrong(t, yes(-1), k, api.ErrCount)
		wantWrong(t, wide(api.Series, api.MaxTrees+1), k, api.ErrCount)
	}
}

// Of no inputs all expressions have something wrong with them, since they end in switches.
func TestCheckNoInputs(t *testing.T) {
	wantWrong(t, yes(0), 0, api.ErrNode)
	wantWrong(t, not(0), 0, api.ErrNode)
	wantWrong(t, series(yes(0)), 0, api.ErrNode)
	wantWrong(t, parallel(parallel(not(0), yes(1))), 0, api.ErrNode)
	wantWrong(t, api.Way{}, 0, api.ErrKind)
	wantWrong(t, series(), 0, api.ErrForm)
	// Series and Parallel have no input that could be wrong: what is below them is told.
	wantWrong(t, series(api.Way{}), 0, api.ErrKind)
	wantWrong(t, parallel(series()), 0, api.ErrForm)
	wantWrong(t, deep(api.MaxTrees, yes(0)), 0, api.ErrNode)
	wantWrong(t, deep(api.MaxTrees+2, yes(0)), 0, api.ErrMany)
}

func TestCheckKinds(t *testing.T) {
	for _, kind := range []int{0, -1, 4, 5, 100, math.MinInt, math.MaxInt} {
		bad := api.Way{Kind: kind}
		wantWrong(t, bad, 1, api.ErrKind)
		wantWrong(t, series(bad), 1, api.ErrKind)
		wantWrong(t, parallel(yes(0), bad), 1, api.ErrKind)
		wantWrong(t, deep(api.MaxTrees, bad), 1, api.ErrKind)
		// Ahead of what else could be said of this node.
		wantWrong(t, api.Way{Kind: kind, In: -1, Not: true}, 1, api.ErrKind)
		wantWrong(t, api.Way{Kind: kind, In: 1, Args: []api.Way{yes(0)}}, 1, api.ErrKind)
		wantWrong(t, deep(api.MaxTrees+1, bad), 1, api.ErrKind)
	}
}

func TestCheckForms(t *testing.T) {
	below := []api.Way{yes(0)}
	for _, bad := range []api.Way{
		{Kind: api.Switch, Args: below},
		{Kind: api.Switch, Not: true, Args: []api.Way{yes(0), not(0)}},
		{Kind: api.Series}, {Kind: api.Parallel},
		{Kind: api.Series, Args: []api.Way{}}, {Kind: api.Parallel, Args: below[:0]},
		{Kind: api.Series, In: 1}, {Kind: api.Parallel, Not: true},
		{Kind: api.Series, In: 1, Args: below}, {Kind: api.Parallel, In: 1, Args: below},
		{Kind: api.Series, In: -1, Args: below}, {Kind: api.Parallel, In: -1, Args: below},
		{Kind: api.Series, In: math.MaxInt, Args: below}, {Kind: api.Parallel, In: math.MinInt, Args: below},
		{Kind: api.Series, Not: true, Args: below}, {Kind: api.Parallel, Not: true, Args: below},
		{Kind: api.Series, In: 1, Not: true, Args: below}, {Kind: api.Parallel, In: 1, Not: true, Args: below},
		// Ahead of what else could be said of this node.
		{Kind: api.Switch, In: -1, Args: below}, {Kind: api.Switch, In: 2, Args: below},
	} {
		wantWrong(t, bad, 2, api.ErrForm)
		wantWrong(t, series(bad), 2, api.ErrForm)
		wantWrong(t, parallel(yes(0), not(1), bad), 2, api.ErrForm)
		wantWrong(t, deep(api.MaxTrees, bad), 2, api.ErrForm)
		wantWrong(t, deep(api.MaxTrees+1, bad), 2, api.ErrForm)
	}
	// A list with nothing in it is none.
	wantRight(t, api.Way{Kind: api.Switch, Args: []api.Way{}}, 1)
	wantRight(t, api.Way{Kind: api.Switch, Args: below[:0]}, 1)
}

func TestCheckInputs(t *testing.T) {
	for k := range api.MaxInputs + 1 {
		for _, in := range []int{-1, -2, k, k + 1, 64, math.MinInt, math.MaxInt} {
			for _, bad := range []api.Way{yes(in), not(in)} {
				wantWrong(t, bad, k, api.ErrNode)
				wantWrong(t, parallel(bad), k, api.ErrNode)
				wantWrong(t, deep(api.MaxTrees, bad), k, api.ErrNode)
				// Ahead of there being too many.
				wantWrong(t, deep(api.MaxTrees+1, bad), k, api.ErrNode)
				if k > 0 {
					wantWrong(t, series(yes(0), not(k-1), bad), k, api.ErrNode)
				}
			}
		}
		for in := range k {
			wantRight(t, series(yes(in), not(in)), k)
		}
	}
}

func TestCheckHowManyNodes(t *testing.T) {
	for _, nodes := range []int{2, 3, api.MaxTrees - 1, api.MaxTrees} {
		for k := 1; k <= api.MaxInputs; k++ {
			wantRight(t, deep(nodes, yes(k-1)), k)
			wantRight(t, wide(api.Series, nodes), k)
			wantRight(t, wide(api.Parallel, nodes), k)
			wantRight(t, bushy(nodes), k)
		}
	}
	for _, nodes := range []int{api.MaxTrees + 1, api.MaxTrees + 2, 2 * api.MaxTrees, 10000} {
		wantWrong(t, deep(nodes, yes(0)), 1, api.ErrMany)
		wantWrong(t, wide(api.Series, nodes), 1, api.ErrMany)
		wantWrong(t, wide(api.Parallel, nodes), 1, api.ErrMany)
		wantWrong(t, bushy(nodes), 1, api.ErrMany)
	}
}

// All nodes count, those that are no switches, too: here are twenty switches, and twenty or more others.
func TestCheckCountsAllNodes(t *testing.T) {
	half := api.MaxTrees / 2
	list := slices.Repeat([]api.Way{series(yes(0))}, half-1)
	wantRight(t, parallel(append(list, yes(0))...), 1)
	wantWrong(t, parallel(append(list, series(yes(0)))...), 1, api.ErrMany)
}

// Each node ahead of those below it, the first of several, with all that is below it, ahead of the others.
func TestCheckWhichIsFirst(t *testing.T) {
	kind, form, node := api.Way{}, series(), yes(1)
	formAbove := func(below api.Way) api.Way { return api.Way{Kind: api.Series, Not: true, Args: []api.Way{below}} }
	kindAbove := func(below api.Way) api.Way { return api.Way{Kind: 7, Args: []api.Way{below}} }
	wantWrong(t, series(kind, form, node), 1, api.ErrKind)
	wantWrong(t, series(form, kind, node), 1, api.ErrForm)
	wantWrong(t, series(node, form, kind), 1, api.ErrNode)
	wantWrong(t, formAbove(kind), 1, api.ErrForm)
	wantWrong(t, formAbove(node), 1, api.ErrForm)
	wantWrong(t, kindAbove(form), 1, api.ErrKind)
	wantWrong(t, kindAbove(node), 1, api.ErrKind)
	wantWrong(t, parallel(formAbove(kind), kind), 1, api.ErrForm)
	// What is deep below the first comes ahead of the second.
	wantWrong(t, parallel(series(parallel(series(node))), kind), 1, api.ErrNode)
	wantWrong(t, parallel(series(yes(0), parallel(yes(0), form)), kind), 1, api.ErrForm)
	wantWrong(t, parallel(series(yes(0), not(0)), series(kind), form), 1, api.ErrKind)
}

// The first node too many ends it: what is wrong ahead of it and with it is told, what is wrong behind it isn't.
func TestCheckWhichIsFirstOfMany(t *testing.T) {
	for _, l := range []struct {
		bad  api.Way
		want api.Errno
	}{{api.Way{}, api.ErrKind}, {series(), api.ErrForm}, {yes(1), api.ErrNode}} {
		for place := 1; place < api.MaxTrees+5; place++ {
			w := wide(api.Parallel, api.MaxTrees+5)
			w.Args[place-1] = l.bad
			want := l.want
			if place > api.MaxTrees { // the first node stands ahead of the list
				want = api.ErrMany
			}
			wantWrong(t, w, 1, want)
		}
		wantWrong(t, deep(api.MaxTrees+2, l.bad), 1, api.ErrMany)
	}
}

// P1: an expression that lies below itself has more nodes than may be.
func TestCheckBelowItself(t *testing.T) {
	list := []api.Way{{Kind: api.Series}, yes(0)}
	list[0].Args = list
	wantEnd := func(w api.Way, want api.Errno) {
		t.Helper()
		_, e1 := Table(w, 1)
		_, e2 := Closed(w, []int{1})
		_, e3 := Dual(w, 1)
		_, e4 := Risks(w, 1)
		if e := Check(w, 1); e != want || e1 != want || e2 != want || e3 != want || e4 != want {
			t.Errorf("%v, %v, %v, %v, %v, want %v", e, e1, e2, e3, e4, want)
		}
	}
	wantEnd(list[0], api.ErrMany)
	later := []api.Way{yes(0), {Kind: api.Parallel}, {}}
	later[1].Args = later
	wantEnd(later[1], api.ErrMany)
	bad := []api.Way{yes(1), {Kind: api.Parallel}}
	bad[1].Args = bad
	wantEnd(bad[1], api.ErrNode)
}

// P14.2: Closed

func TestClosedSwitch(t *testing.T) {
	for v, opposite := range []int{1, 0, 2} {
		wantClosed(t, yes(0), []int{v}, v)
		wantClosed(t, not(0), []int{v}, opposite)
		wantClosed(t, api.Way{Kind: api.Switch, Args: []api.Way{}}, []int{v}, v)
		for in := range api.MaxInputs {
			x := slices.Repeat([]int{2 - v}, api.MaxInputs)
			x[in] = v
			wantClosed(t, yes(in), x, v)
			wantClosed(t, not(in), x, opposite)
		}
	}
}

func TestClosedOfOne(t *testing.T) {
	for v, opposite := range []int{1, 0, 2} {
		wantClosed(t, series(yes(0)), []int{v}, v)
		wantClosed(t, parallel(yes(0)), []int{v}, v)
		wantClosed(t, series(not(0)), []int{v}, opposite)
		wantClosed(t, parallel(not(0)), []int{v}, opposite)
		wantClosed(t, deep(api.MaxTrees, not(0)), []int{v}, opposite)
	}
}

func TestClosedOfTwo(t *testing.T) {
	inSeries := [3][3]int{{0, 0, 0}, {0, 1, 2}, {0, 2, 2}}
	inParallel := [3][3]int{{0, 1, 2}, {1, 1, 1}, {2, 1, 2}}
	opposite := [3]int{1, 0, 2}
	for a := range 3 {
		for b := range 3 {
			x := []int{a, b}
			wantClosed(t, series(yes(0), yes(1)), x, inSeries[a][b])
			wantClosed(t, series(not(0), yes(1)), x, inSeries[opposite[a]][b])
			wantClosed(t, series(yes(0), not(1)), x, inSeries[a][opposite[b]])
			wantClosed(t, parallel(yes(0), yes(1)), x, inParallel[a][b])
			wantClosed(t, parallel(not(0), yes(1)), x, inParallel[opposite[a]][b])
			wantClosed(t, parallel(not(0), not(1)), x, inParallel[opposite[a]][opposite[b]])
			for c := range 3 {
				x := []int{a, b, c}
				wantClosed(t, series(yes(0), yes(1), yes(2)), x, inSeries[inSeries[a][b]][c])
				wantClosed(t, parallel(yes(0), yes(1), yes(2)), x, inParallel[inParallel[a][b]][c])
				wantClosed(t, series(yes(0), parallel(yes(1), yes(2))), x, inSeries[a][inParallel[b][c]])
				wantClosed(t, parallel(series(yes(0), yes(1)), yes(2)), x, inParallel[inSeries[a][b]][c])
				wantClosed(t, either(), x, inParallel[inSeries[a][b]][inSeries[opposite[a]][c]])
			}
		}
	}
}

// A switch and its opposite: one of them leads, yet this isn't known while the input isn't.
func TestClosedOfOpposites(t *testing.T) {
	for v, want := range [][2]int{{0, 1}, {0, 1}, {2, 2}} {
		wantClosed(t, series(yes(0), not(0)), []int{v}, want[0])
		wantClosed(t, series(not(0), yes(0)), []int{v}, want[0])
		wantClosed(t, parallel(yes(0), not(0)), []int{v}, want[1])
		wantClosed(t, parallel(not(0), yes(0)), []int{v}, want[1])
	}
}

func TestClosedWithInputsInNoSwitch(t *testing.T) {
	for other := range 3 {
		for v := range 3 {
			wantClosed(t, yes(1), []int{other, v, other}, v)
			wantClosed(t, series(yes(2), parallel(yes(2))), []int{other, other, v, other, other, other}, v)
		}
	}
}

// One that decides does so wherever it stands, among many that aren't known.
func TestClosedOfMany(t *testing.T) {
	for _, l := range []struct{ kind, decides, last int }{{api.Series, 0, 1}, {api.Parallel, 1, 0}} {
		w := wide(l.kind, api.MaxTrees)
		for i := range w.Args {
			w.Args[i].In = 1
		}
		wantClosed(t, w, []int{l.decides, 2}, 2)
		wantClosed(t, w, []int{l.decides, l.last}, l.last)
		wantClosed(t, w, []int{l.last, l.decides}, l.decides)
		for place := range w.Args {
			w.Args[place].In = 0
			wantClosed(t, w, []int{l.decides, 2}, l.decides)
			wantClosed(t, w, []int{l.decides, l.last}, l.decides)
			wantClosed(t, w, []int{2, l.last}, 2)
			wantClosed(t, w, []int{l.last, 2}, 2)
			w.Args[place].In = 1
		}
	}
}

func TestClosedWrongInputs(t *testing.T) {
	for _, v := range []int{-1, 3, 4, -2, math.MinInt, math.MaxInt} {
		wantNotClosed(t, yes(0), []int{v}, api.ErrValue)
		for in := range api.MaxInputs {
			x := []int{0, 1, 2, 1, 0, 2}
			x[in] = v
			wantNotClosed(t, either(), x, api.ErrValue)
			wantNotClosed(t, yes(0), x, api.ErrValue) // even of an input that stands in no switch
			// What is wrong with the expression is told first.
			wantNotClosed(t, api.Way{}, x, api.ErrKind)
			wantNotClosed(t, parallel(yes(0), series()), x, api.ErrForm)
			wantNotClosed(t, parallel(yes(0), yes(api.MaxInputs)), x, api.ErrNode)
			wantNotClosed(t, wide(api.Series, api.MaxTrees+1), x, api.ErrMany)
			wantNotClosed(t, either(), append(x, 0), api.ErrCount)
		}
	}
	wantNotClosed(t, either(), make([]int, api.MaxInputs+1), api.ErrCount)
	wantNotClosed(t, either(), make([]int, 10000), api.ErrCount)
	wantNotClosed(t, either(), []int{0, 0}, api.ErrNode)
	wantNotClosed(t, yes(0), nil, api.ErrNode)
	wantNotClosed(t, yes(0), []int{}, api.ErrNode)
}

// P14.2: Table

func wantTable(t *testing.T, w api.Way, k int, want uint64) {
	t.Helper()
	if table, e := Table(w, k); table != want || e != api.OK {
		t.Errorf("Table(%v, %d): %b, %v, want %b", w, k, table, e, want)
	}
}

func TestTable(t *testing.T) {
	wantTable(t, yes(0), 1, 0b10)
	wantTable(t, not(0), 1, 0b01)
	wantTable(t, series(yes(0), not(0)), 1, 0b00)
	wantTable(t, parallel(yes(0), not(0)), 1, 0b11)
	wantTable(t, yes(0), 2, 0b1010)
	wantTable(t, yes(1), 2, 0b1100)
	wantTable(t, series(yes(0), yes(1)), 2, 0b1000)
	wantTable(t, parallel(yes(0), yes(1)), 2, 0b1110)
	wantTable(t, series(yes(0), not(1)), 2, 0b0010)
	wantTable(t, either(), 3, 0b11011000)
	wantTable(t, either(), 4, 0b1101100011011000)
	wantTable(t, yes(5), 6, 0xffffffff00000000)
	wantTable(t, not(5), 6, 0x00000000ffffffff)
	wantTable(t, yes(0), 6, 0xaaaaaaaaaaaaaaaa)
	wantTable(t, parallel(yes(3), not(3)), 6, math.MaxUint64)
	wantTable(t, deep(api.MaxTrees, not(2)), 3, 0b00001111)
}

// rowAlone leads in one row only.
func rowAlone(row, k int) api.Way {
	w := api.Way{Kind: api.Series}
	for in := range k {
		w.Args = append(w.Args, api.Way{Kind: api.Switch, In: in, Not: row>>in&1 == 0})
	}
	return w
}

func TestTableOfEachRow(t *testing.T) {
	for k := 1; k <= api.MaxInputs; k++ {
		for row := range 1 << k {
			wantTable(t, rowAlone(row, k), k, 1<<row)
		}
	}
	wantTable(t, rowAlone(0, api.MaxInputs), api.MaxInputs, 1)
	wantTable(t, rowAlone(63, api.MaxInputs), api.MaxInputs, 1<<63)
}

// P14.2: Dual

func wantDual(t *testing.T, w api.Way, k int, want api.Way) {
	t.Helper()
	if d, e := Dual(w, k); !reflect.DeepEqual(d, want) || e != api.OK {
		t.Errorf("Dual(%v, %d): %v, %v, want %v", w, k, d, e, want)
	}
}

func TestDual(t *testing.T) {
	for in := range api.MaxInputs {
		wantDual(t, yes(in), api.MaxInputs, not(in))
		wantDual(t, not(in), api.MaxInputs, yes(in))
	}
	wantDual(t, series(yes(0)), 1, parallel(not(0)))
	wantDual(t, parallel(not(0)), 1, series(yes(0)))
	wantDual(t, series(yes(0), not(1), yes(2)), 3, parallel(not(0), yes(1), not(2)))
	wantDual(t, parallel(yes(2), not(1), yes(0)), 3, series(not(2), yes(1), not(0)))
	wantDual(t, either(), 3, series(parallel(not(0), not(1)), parallel(yes(0), not(2))))
	wantDual(t, deep(api.MaxTrees, yes(0)), 1, deep(api.MaxTrees-1, parallel(not(0))))
}

// scribble writes over all lists of an expression, and over the room behind them.
func scribble(w api.Way) {
	for i := range w.Args {
		scribble(w.Args[i])
	}
	all := w.Args[:cap(w.Args)]
	for i := range all {
		all[i] = api.Way{Kind: -9, In: -9, Not: true, Args: []api.Way{{}}}
	}
}

func TestDualIsNewMemory(t *testing.T) {
	for _, build := range []func() api.Way{either, func() api.Way { return yes(0) }, func() api.Way { return bushy(api.MaxTrees) }} {
		w, same := build(), build()
		d, _ := Dual(w, 3)
		scribble(d)
		if !reflect.DeepEqual(w, same) {
			t.Errorf("%v, but was %v ahead of writing to its dual", w, same)
		}
		d, _ = Dual(w, 3)
		wantDual(t, same, 3, d)
		scribble(w)
		wantDual(t, same, 3, d)
	}
}

// Two lists of an answer share nothing, even if those that were handed in do.
func TestDualSharesNothingWithinItself(t *testing.T) {
	list := []api.Way{yes(0), not(1)}
	d, _ := Dual(parallel(series(list...), series(list...)), 2)
	scribble(d.Args[0])
	if want := parallel(not(0), yes(1)); !reflect.DeepEqual(d.Args[1], want) {
		t.Errorf("%v, want %v", d.Args[1], want)
	}
}

// P14.3

func wantRisks(t *testing.T, w api.Way, k int, want ...[2]int) {
	t.Helper()
	if l, e := Risks(w, k); !slices.Equal(l, want) || e != api.OK {
		t.Errorf("Risks(%v, %d): %v, %v, want %v", w, k, l, e, want)
	}
}

func TestRisksNone(t *testing.T) {
	wantRisks(t, yes(0), 1)
	wantRisks(t, not(0), 6)
	wantRisks(t, series(yes(0), yes(1), yes(2)), 3)
	// It doesn't lead in both rows: nothing is asked of it there, known or not.
	wantRisks(t, series(yes(0), not(0)), 1)
	wantRisks(t, series(yes(1), yes(0), not(0)), 2)
	wantRisks(t, series(parallel(yes(0), yes(1)), parallel(not(0), yes(2))), 3)
}

// It leads in both rows, and is known to while the input isn't.
func TestRisksLeadsWithoutRisk(t *testing.T) {
	wantRisks(t, yes(0), 2)
	wantRisks(t, parallel(yes(0), yes(1)), 2)
	wantRisks(t, parallel(yes(0), not(0), yes(1)), 2, [2]int{0, 1})
	// The third way leads through the change that either has.
	wantRisks(t, parallel(either(), series(yes(1), yes(2))), 3)
}

func TestRisksOne(t *testing.T) {
	wantRisks(t, parallel(yes(0), not(0)), 1, [2]int{0, 1})
	wantRisks(t, either(), 3, [2]int{6, 7})
	wantRisks(t, series(yes(1), parallel(yes(0), not(0))), 2, [2]int{2, 3})
	wantRisks(t, series(not(1), parallel(yes(0), not(0))), 2, [2]int{0, 1})
	wantRisks(t, parallel(series(yes(5), yes(4), yes(3), yes(2), yes(1), yes(0)), series(yes(5), yes(4), yes(3), yes(2), yes(1), not(0))), 6, [2]int{62, 63})
	wantRisks(t, parallel(series(yes(5), yes(4), yes(3), yes(2), yes(1), yes(0)), series(not(5), yes(4), yes(3), yes(2), yes(1), yes(0))), 6, [2]int{31, 63})
}

func TestRisksSeveral(t *testing.T) {
	wantRisks(t, parallel(yes(0), not(0)), 2, [2]int{0, 1}, [2]int{2, 3})
	wantRisks(t, parallel(yes(1), not(1)), 2, [2]int{0, 2}, [2]int{1, 3})
	wantRisks(t, either(), 4, [2]int{6, 7}, [2]int{14, 15})
	// By the first row, then by the input: from 0 each of the inputs is told, then from 1.
	each := parallel(rowAlone(0, 2), rowAlone(1, 2), rowAlone(2, 2), rowAlone(3, 2))
	wantRisks(t, each, 2, [2]int{0, 1}, [2]int{0, 2}, [2]int{1, 3}, [2]int{2, 3})
	each = parallel(rowAlone(3, 3), rowAlone(7, 3), rowAlone(5, 3), rowAlone(1, 3), rowAlone(0, 3))
	wantRisks(t, each, 3, [2]int{0, 1}, [2]int{1, 3}, [2]int{1, 5}, [2]int{3, 7}, [2]int{5, 7})
}

// P2

// behind has an expression's lists with room behind them in which something stands.
func behind(w api.Way) api.Way {
	list := []api.Way{}
	for _, below := range w.Args {
		list = append(list, behind(below))
	}
	w.Args = append(list, yes(5), not(4))[:len(list)]
	return w
}

// whole is an expression with what stands behind its lists.
func whole(w api.Way) api.Way {
	list := []api.Way{}
	for _, below := range w.Args[:cap(w.Args)] {
		list = append(list, whole(below))
	}
	w.Args = list
	return w
}

func TestArgumentsAreOnlyRead(t *testing.T) {
	for _, w := range []api.Way{behind(yes(0)), behind(either()), behind(bushy(api.MaxTrees)), behind(series(yes(0), api.Way{}, yes(7)))} {
		x := []int{2, 1, 0, 9, 9}
		was := whole(w)
		Check(w, 3)
		Closed(w, x[:3])
		Table(w, 3)
		Dual(w, 3)
		Risks(w, 3)
		if !reflect.DeepEqual(whole(w), was) || !slices.Equal(x, []int{2, 1, 0, 9, 9}) {
			t.Errorf("%v and %v, but was %v", whole(w), x, was)
		}
	}
}

func TestRisksAreNewMemory(t *testing.T) {
	w := either()
	l, _ := Risks(w, 4)
	l[0], l[1] = [2]int{9, 9}, [2]int{9, 9}
	wantRisks(t, w, 4, [2]int{6, 7}, [2]int{14, 15})
}
