package transfer

import (
	"math"
	"slices"
	"strings"
	"testing"

	"voltaic/api"
)

func part(kind, a, b int, value api.Q) api.Part {
	return api.Part{Kind: kind, A: a, B: b, Value: value}
}

func led(kind, a, b, c, d int, value api.Q) api.Part {
	return api.Part{Kind: kind, A: a, B: b, C: c, D: d, Value: value}
}

func netOf(nodes int, parts ...api.Part) api.Net { return api.Net{Nodes: nodes, Parts: parts} }

// behind has a volt at node 1, a resistor from there to node 2, and parts from there to the ground.
func behind(ohms api.Q, parts ...api.Part) api.Net {
	return netOf(3, append([]api.Part{part(api.V, 1, 0, "1"), part(api.R, 1, 2, ohms)}, parts...)...)
}

// ratio is read from two lists of words with a bar between: "1 2 | 0 1" is (1 + 2 s) / s.
func ratio(text string) api.Ratio {
	up, down, _ := strings.Cut(text, "|")
	return api.Ratio{Up: words(up), Down: words(down)}
}

func words(text string) []api.Q {
	var out []api.Q
	for _, w := range strings.Fields(text) {
		out = append(out, api.Q(w))
	}
	return out
}

func same(x, y api.Ratio) bool { return slices.Equal(x.Up, y.Up) && slices.Equal(x.Down, y.Down) }

func wantVolts(t *testing.T, n api.Net, want ...string) {
	t.Helper()
	got, f := Volts(n)
	if f != (api.Fault{}) || !slices.EqualFunc(got, want, func(r api.Ratio, w string) bool { return same(r, ratio(w)) }) {
		t.Errorf("Volts(%v): %v, %v, want %q", n, got, f, want)
	}
}

func wantBetween(t *testing.T, n api.Net, a, b int, want string) {
	t.Helper()
	if got, f := Between(n, a, b); f != (api.Fault{}) || !same(got, ratio(want)) {
		t.Errorf("Between(%v, %d, %d): %v, %v, want %s", n, a, b, got, f, want)
	}
}

// wantVoltsFault and wantBetweenFault ask that nothing else is told.
func wantVoltsFault(t *testing.T, n api.Net, code api.Errno, at int) {
	t.Helper()
	if l, f := Volts(n); l != nil || f != (api.Fault{Code: code, At: at}) {
		t.Errorf("Volts(%v): %v, %v, want %d at %d and nothing else", n, l, f, code, at)
	}
}

func wantBetweenFault(t *testing.T, n api.Net, a, b int, code api.Errno, at int) {
	t.Helper()
	if r, f := Between(n, a, b); r.Up != nil || r.Down != nil || f != (api.Fault{Code: code, At: at}) {
		t.Errorf("Between(%v, %d, %d): %v, %v, want %d at %d and nothing else", n, a, b, r, f, code, at)
	}
}

func TestVolts(t *testing.T) {
	wantVolts(t, behind("2", part(api.C, 2, 0, "1")), "|1", "1|1", "1/2 | 1/2 1")
	wantVolts(t, behind("2", part(api.L, 2, 0, "3")), "|1", "1|1", "0 1 | 2/3 1")
	wantVolts(t, behind("2", part(api.R, 2, 0, "3")), "|1", "1|1", "3/5 | 1")
	// An I pushes one ampere through all three, side by side: 1/(1 + s + 1/s).
	wantVolts(t, netOf(2, part(api.I, 0, 1, "1"), part(api.R, 1, 0, "1"), part(api.L, 1, 0, "1"), part(api.C, 1, 0, "1")), "|1", "0 1 | 1 1 1")
	// Other ways round, and below 0.
	wantVolts(t, netOf(3, part(api.V, 0, 1, "-2/3"), part(api.C, 2, 1, "5"), part(api.L, 0, 2, "1/5")), "|1", "2/3 | 1", "0 0 2/3 | 1 0 1")
	wantVolts(t, netOf(3, part(api.I, 1, 0, "3"), part(api.C, 1, 2, "1/2"), part(api.L, 2, 0, "4")), "|1", "-6 0 -12 | 0 1", "0 -12 | 1")
}

func TestVoltsOfWhatIsLed(t *testing.T) {
	// Three times what is at the capacitor.
	wantVolts(t, netOf(4, part(api.V, 1, 0, "2"), part(api.R, 1, 2, "1"), part(api.C, 2, 0, "1"), led(api.E, 3, 0, 2, 0, "3"), part(api.R, 3, 0, "3")),
		"|1", "2|1", "2 | 1 1", "6 | 1 1")
	// Two amperes a volt there, through an inductor.
	wantVolts(t, netOf(4, part(api.V, 1, 0, "2"), part(api.R, 1, 2, "1"), part(api.C, 2, 0, "1"), led(api.G, 3, 0, 0, 2, "2"), part(api.L, 3, 0, "3")),
		"|1", "2|1", "2 | 1 1", "0 12 | 1 1")
	// A G turns a capacitor into what an inductor is: a gyrator.
	wantBetween(t, netOf(3, led(api.G, 1, 0, 2, 0, "1"), led(api.G, 2, 0, 0, 1, "1"), part(api.C, 2, 0, "5")), 1, 0, "0 5 | 1")
	// What is led may take away what is there: a resistor, and all growing is gone.
	wantBetween(t, netOf(2, part(api.R, 1, 0, "2"), led(api.G, 1, 0, 1, 0, "-1/2"), part(api.C, 1, 0, "1/3")), 1, 0, "3 | 0 1")
	wantBetween(t, netOf(2, part(api.R, 1, 0, "2"), led(api.G, 1, 0, 1, 0, "-1"), part(api.C, 1, 0, "1")), 1, 0, "1 | -1/2 1")
}

func TestBetween(t *testing.T) {
	row := netOf(4, part(api.R, 1, 2, "1"), part(api.L, 2, 3, "1"), part(api.C, 3, 0, "1"))
	wantBetween(t, row, 1, 0, "1 1 1 | 0 1")
	wantBetween(t, row, 0, 1, "1 1 1 | 0 1")
	wantBetween(t, row, 1, 3, "1 1 | 1")
	wantBetween(t, row, 3, 2, "0 1 | 1")
	wantBetween(t, row, 0, 3, "1 | 0 1")
	// Sources do nothing: a V is a joint, an I a gap, whatever they have.
	wantBetween(t, netOf(3, part(api.V, 1, 0, "7"), part(api.R, 1, 2, "2"), part(api.I, 2, 0, "5"), part(api.C, 2, 0, "1/4")), 2, 0, "4 | 2 1")
	wantBetween(t, netOf(2, part(api.V, 1, 0, "7"), part(api.R, 1, 0, "2")), 1, 0, "|1")
}

// What comes of equations has more roots than the fraction in lowest terms.
func TestLowestTerms(t *testing.T) {
	// 1 Ω and 1 H beside 1 Ω and 1 F are 1 Ω at all paces.
	wantBetween(t, netOf(4, part(api.R, 1, 2, "1"), part(api.L, 2, 0, "1"), part(api.R, 1, 3, "1"), part(api.C, 3, 0, "1")), 1, 0, "1 | 1")
	// Two of a kind in a row share what is across them.
	wantVolts(t, netOf(3, part(api.V, 1, 0, "5"), part(api.C, 1, 2, "3"), part(api.C, 2, 0, "2")), "|1", "5|1", "3|1")
	wantVolts(t, netOf(3, part(api.V, 1, 0, "5"), part(api.L, 1, 2, "3"), part(api.L, 2, 0, "2")), "|1", "5|1", "2|1")
	// A bridge in balance: what is across it is 0, and it does nothing.
	bridge := netOf(4, part(api.V, 1, 0, "1"), part(api.R, 1, 2, "2"), part(api.C, 2, 0, "1/2"), part(api.R, 1, 3, "4"), part(api.C, 3, 0, "1/4"), part(api.L, 2, 3, "9"))
	wantVolts(t, bridge, "|1", "1|1", "1 | 1 1", "1 | 1 1")
	// What swings elsewhere isn't seen.
	wantVolts(t, behind("2", part(api.C, 2, 0, "1"), part(api.L, 1, 0, "7"), part(api.C, 1, 0, "9")), "|1", "1|1", "1/2 | 1/2 1")
	// Half a number, and no number at the end.
	wantVolts(t, netOf(3, part(api.V, 1, 0, "4/6"), part(api.R, 1, 2, "03"), part(api.R, 2, 0, "6/4")), "|1", "2/3|1", "2/9|1")
}

func TestNetsWithLittleInThem(t *testing.T) {
	wantVolts(t, netOf(1), "|1")
	wantVolts(t, api.Net{Nodes: 1, Parts: []api.Part{}}, "|1")
	wantBetween(t, netOf(1), 0, 0, "|1")
	wantVolts(t, netOf(2, part(api.C, 1, 0, "1")), "|1", "|1")
	wantVolts(t, netOf(1, part(api.L, 0, 0, "1"), part(api.C, 0, 0, "1"), part(api.I, 0, 0, "3")), "|1")
	for nodes := 2; nodes <= api.MaxNodes; nodes++ {
		wantVoltsFault(t, netOf(nodes), api.ErrFree, 0)
	}
	// A node and itself: nothing between, but all else must have one answer, too.
	row := netOf(3, part(api.R, 1, 2, "1"), part(api.C, 2, 0, "1"))
	for node := range 3 {
		wantBetween(t, row, node, node, "|1")
	}
	wantBetweenFault(t, netOf(2), 0, 0, api.ErrFree, 0)
	wantBetweenFault(t, netOf(2), 1, 1, api.ErrFree, 0)
}

func TestNetsWithNoAnswerOrMany(t *testing.T) {
	c := part(api.C, 1, 0, "1")
	wantVoltsFault(t, netOf(2, part(api.V, 1, 0, "1"), part(api.V, 1, 0, "2"), c), api.ErrNone, 0)
	wantVoltsFault(t, netOf(2, part(api.V, 1, 0, "1"), part(api.V, 0, 1, "-1"), c), api.ErrFree, 0)
	wantVoltsFault(t, netOf(2, part(api.I, 1, 0, "1")), api.ErrNone, 0)
	wantVoltsFault(t, netOf(2, part(api.I, 1, 0, "0")), api.ErrFree, 0)
	wantVoltsFault(t, netOf(3, part(api.I, 0, 1, "1"), part(api.L, 1, 2, "1")), api.ErrNone, 0)
	wantVoltsFault(t, netOf(4, part(api.R, 1, 0, "1"), part(api.C, 2, 3, "1")), api.ErrFree, 0)
	wantVoltsFault(t, netOf(2, led(api.E, 1, 0, 1, 0, "1"), c), api.ErrFree, 0)
	// No answer goes ahead of more than one.
	wantVoltsFault(t, netOf(3, part(api.V, 1, 0, "1"), part(api.V, 1, 0, "2")), api.ErrNone, 0)
	// What rings at one pace, or lets nothing through at rest, has an answer in s.
	wantVolts(t, netOf(2, part(api.I, 0, 1, "1"), part(api.L, 1, 0, "4"), part(api.C, 1, 0, "1/9")), "|1", "0 9 | 9/4 0 1")
	wantVolts(t, netOf(2, part(api.I, 0, 1, "1"), part(api.C, 1, 0, "2")), "|1", "1/2 | 0 1")
	wantVolts(t, netOf(2, part(api.V, 1, 0, "1"), part(api.L, 1, 0, "1")), "|1", "1|1")
}

// Of Between, the faults are those of the net whose sources are at 0, with one ampere more.
func TestFaultsOfThePushedNet(t *testing.T) {
	apart := netOf(4, part(api.R, 1, 0, "1"), part(api.C, 2, 3, "1"))
	wantBetweenFault(t, apart, 2, 0, api.ErrNone, 0)
	wantBetweenFault(t, apart, 1, 3, api.ErrNone, 0)
	wantBetweenFault(t, apart, 2, 3, api.ErrFree, 0)
	wantBetweenFault(t, apart, 1, 0, api.ErrFree, 0)
	// Batteries that don't fit each other have no answer, but at 0 they fit in many ways; an I into nowhere, too.
	against := netOf(2, part(api.V, 1, 0, "1"), part(api.V, 1, 0, "2"), part(api.C, 1, 0, "1"))
	wantBetweenFault(t, against, 1, 0, api.ErrFree, 0)
	wantBetweenFault(t, netOf(2, part(api.I, 0, 1, "1")), 1, 0, api.ErrNone, 0)
	wantBetweenFault(t, netOf(2, part(api.I, 0, 1, "1")), 0, 0, api.ErrFree, 0)
}

func TestNodesThatAreNotThere(t *testing.T) {
	n := netOf(3, part(api.R, 1, 2, "1"), part(api.C, 2, 0, "1"))
	for _, node := range []int{-1, 3, math.MaxInt, math.MinInt} {
		wantBetweenFault(t, n, node, 0, api.ErrNode, 2)
		wantBetweenFault(t, n, 0, node, api.ErrNode, 3)
		wantBetweenFault(t, n, node, node, api.ErrNode, 2)
		// Ahead of nets that have no answer.
		wantBetweenFault(t, netOf(2), node, 0, api.ErrNode, 0)
		wantBetweenFault(t, netOf(2), 1, node, api.ErrNode, 1)
		// Behind what is wrong with the net.
		wantBetweenFault(t, netOf(3, part(api.R, 1, 2, "1"), part(api.C, 2, 0, "0")), node, node, api.ErrValue, 1)
	}
}

func TestFaultsOfNets(t *testing.T) {
	wantBoth := func(n api.Net, code api.Errno, at int) {
		t.Helper()
		wantVoltsFault(t, n, code, at)
		wantBetweenFault(t, n, 1, 0, code, at)
		wantBetweenFault(t, n, -1, 99, code, at)
	}
	for _, nodes := range []int{0, -1, api.MaxNodes + 1, math.MaxInt, math.MinInt} {
		wantBoth(netOf(nodes), api.ErrMany, 0)
	}
	wantBoth(netOf(2, slices.Repeat([]api.Part{part(api.R, 0, 1, "1")}, api.MaxParts+1)...), api.ErrMany, 0)
	for code, wrong := range map[api.Errno][]api.Part{
		api.ErrKind:  {part(api.D, 1, 0, ""), part(0, 1, 0, "1"), part(-1, 1, 0, "1"), part(9, 9, 9, "1")},
		api.ErrNode:  {part(api.R, 3, 0, "1"), part(api.L, 0, -1, "1"), led(api.E, 1, 0, 3, 0, "1"), led(api.G, 1, 0, 0, -1, "1")},
		api.ErrValue: {part(api.R, 1, 0, "0"), part(api.L, 1, 0, "-1"), part(api.C, 1, 0, "x")},
		api.ErrForm:  {led(api.C, 1, 0, 1, 0, "1"), led(api.V, 1, 0, 0, 1, "1"), led(api.I, 1, 0, 0, -1, "1")},
	} {
		for _, p := range wrong {
			wantBoth(netOf(3, part(api.V, 1, 0, "1"), part(api.V, 1, 0, "2"), p, part(0, 0, 0, "")), code, 2)
			wantBoth(netOf(3, p, part(api.D, 1, 0, "")), code, 0)
		}
	}
}

// As many parts as there may be, and the one that pushes is one more; polynomials may be longer than those that are handed in.
func TestAsManyAsThereMayBe(t *testing.T) {
	n := netOf(api.MaxNodes)
	for node := 1; node < api.MaxNodes; node++ {
		n.Parts = append(n.Parts, part(api.L, node, (node+1)%api.MaxNodes, api.Q(strings.Repeat("3", 20+node)+"/2")), part(api.C, node, 0, "1/3"))
	}
	n.Parts = append(n.Parts, part(api.R, 3, 5, "1/2"), part(api.R, 1, 0, "2"))
	r, f := Between(n, 1, 4)
	if f != (api.Fault{}) || len(n.Parts) != api.MaxParts || len(r.Down) <= api.MaxDegree+1 {
		t.Fatalf("Between(%v): %v, %v", n, r, f)
	}
	for _, s := range []api.Q{"1", "-2/3", "7", "1/1000"} {
		if want := acrossAt(pushed(n, 1, 4), s, 1, 4); rat(want).Cmp(valueOf(r, rat(s))) != 0 {
			t.Errorf("Between(%v) at %s isn't %s", n, s, want)
		}
	}
	if _, e := At(r, "1"); e != api.ErrMany {
		t.Errorf("At of what is too long: %d", e)
	}
}

func wantAt(t *testing.T, r api.Ratio, s, want api.Q) {
	t.Helper()
	if got, e := At(r, s); got != want || e != api.OK {
		t.Errorf("At(%v, %q): %q, %d, want %q", r, s, got, e, want)
	}
}

func wantTurning(t *testing.T, r api.Ratio, w, re, im api.Q) {
	t.Helper()
	if got, e := Turning(r, w); got != (api.Z{Re: re, Im: im}) || e != api.OK {
		t.Errorf("Turning(%v, %q): %v, %d, want %s, %s", r, w, got, e, re, im)
	}
}

func wantErrors(t *testing.T, r api.Ratio, place api.Q, code api.Errno) {
	t.Helper()
	wantErrorAt(t, r, place, code)
	if got, e := Turning(r, place); got != (api.Z{}) || e != code {
		t.Errorf("Turning(%v, %q): %v, %d, want %d and nothing else", r, place, got, e, code)
	}
}

func wantErrorAt(t *testing.T, r api.Ratio, s api.Q, code api.Errno) {
	t.Helper()
	if got, e := At(r, s); got != "" || e != code {
		t.Errorf("At(%v, %q): %q, %d, want %d and nothing else", r, s, got, e, code)
	}
}

func TestAt(t *testing.T) {
	r := ratio("1 1 1 | 0 1")
	wantAt(t, r, "2", "7/2")
	wantAt(t, r, "-1/2", "-3/2")
	wantAt(t, r, "4/2", "7/2")
	wantAt(t, ratio("6 | 4"), "9", "3/2")
	wantAt(t, ratio("| 4"), "9", "0")
	wantAt(t, ratio("0 0 | 5 0 0"), "9", "0")
	wantAt(t, ratio("-4/2 0 1 | 02/4"), "2", "4")
	wantAt(t, ratio("-1 1 | 1 1"), "1", "0")
	// What isn't a fraction counts as 0, among the numbers, too.
	for _, s := range []api.Q{"", "x", "1.5", "+1", " 1", "1/0", "-", "-0", "1/2/3"} {
		wantAt(t, ratio("3 1 | 2 1"), s, "3/2")
		wantAt(t, ratio("3 1/0 | 2 x 1"), "2", "1/2")
		wantTurning(t, ratio("3 1 | 2 1"), s, "3/2", "0")
	}
}

func TestTurning(t *testing.T) {
	r := ratio("1 1 1 | 0 1")
	wantTurning(t, r, "2", "1", "3/2")
	wantTurning(t, r, "1", "1", "0")
	wantTurning(t, ratio("1 | 1 1"), "1", "1/2", "-1/2")
	wantTurning(t, ratio("| 1 1"), "1", "0", "0")
	wantTurning(t, ratio("0 0 0 0 1 | 1"), "1/2", "1/16", "0")
	// Below 0 it turns the other way.
	wantTurning(t, r, "-2", "1", "-3/2")
	wantTurning(t, ratio("1 | 1 1"), "-1", "1/2", "1/2")
}

func TestWhereWhatIsBelowTheBarIsZero(t *testing.T) {
	wantErrors(t, ratio("1 1 1 | 0 1"), "0", api.ErrZero)
	wantErrors(t, ratio("1 1 1 | 0 1"), "x", api.ErrZero)
	wantErrorAt(t, ratio("1 | -6 1 1"), "2", api.ErrZero)
	wantErrorAt(t, ratio("1 | -6 1 1"), "-3", api.ErrZero)
	wantAt(t, ratio("1 | -6 1 1"), "3", "1/6")
	for _, w := range []api.Q{"2/3", "-2/3", "4/6"} {
		if got, e := Turning(ratio("1 | 4 0 9"), w); got != (api.Z{}) || e != api.ErrZero {
			t.Errorf("Turning at %s: %v, %d", w, got, e)
		}
		wantAt(t, ratio("1 | 4 0 9"), w, "1/8")
	}
	// A root below the bar that is one above it, too, is none.
	wantAt(t, ratio("-2 1 | -6 1 1"), "2", "1/5")
	wantErrorAt(t, ratio("-2 1 | -6 1 1"), "-3", api.ErrZero)
	wantAt(t, ratio("0 0 5 | 0 0 7"), "0", "5/7")
	wantAt(t, ratio("0 0 0 5 | 0 0 7"), "0", "0")
	wantAt(t, ratio("| 0 1"), "0", "0")
	wantTurning(t, ratio("4 0 9 | 4 4 9 9"), "2/3", "9/13", "-6/13")
	wantTurning(t, ratio("0 3 | 0 0 1 1"), "1", "-3/2", "-3/2")
	// One that is there more often below than above stays.
	wantErrors(t, ratio("0 1 | 0 0 1"), "0", api.ErrZero)
	wantErrorAt(t, ratio("-1 1 | 1 -2 1"), "1", api.ErrZero)
}

func TestErrorsOfRatios(t *testing.T) {
	most := make([]api.Q, api.MaxDegree+1)
	down := append([]api.Q{"2"}, most[1:]...)
	wantAt(t, api.Ratio{Up: most, Down: down}, "1", "0")
	wantTurning(t, api.Ratio{Up: down, Down: down}, "1", "1", "0")
	long := append(slices.Clone(down), "0")
	wantErrors(t, api.Ratio{Up: long, Down: down}, "1", api.ErrMany)
	wantErrors(t, api.Ratio{Up: down, Down: long}, "1", api.ErrMany)
	wantErrors(t, api.Ratio{Up: make([]api.Q, api.MaxDegree+2), Down: words("1")}, "1", api.ErrMany)
	// Too many goes ahead of 0.
	wantErrors(t, api.Ratio{Up: long}, "1", api.ErrMany)
	wantErrors(t, api.Ratio{Down: make([]api.Q, api.MaxDegree+2)}, "1", api.ErrMany)
	wantErrors(t, api.Ratio{}, "1", api.ErrZero)
	wantErrors(t, api.Ratio{Up: words("1"), Down: []api.Q{}}, "1", api.ErrZero)
	wantErrors(t, api.Ratio{Up: words("1"), Down: most}, "1", api.ErrZero)
	wantErrors(t, ratio("1 | x 1/0 0/3 -"), "1", api.ErrZero)
	full := slices.Repeat([]api.Q{"1"}, api.MaxDegree+1)
	wantAt(t, api.Ratio{Up: full, Down: words("1")}, "2", "8191")
	wantAt(t, api.Ratio{Up: words("1"), Down: full}, "-1", "1")
}
