package ports

import (
	"math"
	"reflect"
	"slices"
	"strings"
	"testing"

	"voltaic/api"
)

const (
	z = api.PortZ
	y = api.PortY
	h = api.PortH
	a = api.PortA
)

var kinds = [...]int{z, y, h, a}

func part(kind, a, b int, value api.Q) api.Part {
	return api.Part{Kind: kind, A: a, B: b, Value: value}
}

func led(kind, a, b, c, d int, value api.Q) api.Part {
	return api.Part{Kind: kind, A: a, B: b, C: c, D: d, Value: value}
}

func netOf(nodes int, parts ...api.Part) api.Net { return api.Net{Nodes: nodes, Parts: parts} }

func words(text string) []api.Q {
	var out []api.Q
	for _, w := range strings.Fields(text) {
		out = append(out, api.Q(w))
	}
	return out
}

// ratio is read from two lists of words with a bar between, 1 below it if there is none: "1 2 | 0 1" is (1 + 2 s) / s.
func ratio(text string) api.Ratio {
	up, down, barred := strings.Cut(text, "|")
	if !barred {
		down = "1"
	}
	return api.Ratio{Up: words(up), Down: words(down)}
}

// portOf reads four fractions.
func portOf(kind int, m ...string) api.Port {
	out := api.Port{Kind: kind}
	for i := range out.M {
		out.M[i] = ratio(m[i])
	}
	return out
}

func sameRatio(x, y api.Ratio) bool {
	return slices.Equal(x.Up, y.Up) && slices.Equal(x.Down, y.Down)
}

func samePort(x, y api.Port) bool {
	return x.Kind == y.Kind && slices.EqualFunc(x.M[:], y.M[:], sameRatio)
}

func wantPort(t *testing.T, what string, got api.Port, f api.Fault, want api.Port) {
	t.Helper()
	if f != (api.Fault{}) || !samePort(got, want) {
		t.Errorf("%s: %v, %v, want %v", what, got, f, want)
	}
}

// wantFault asks that nothing else is told.
func wantFault(t *testing.T, what string, got api.Port, f api.Fault, code api.Errno, at int) {
	t.Helper()
	if f != (api.Fault{Code: code, At: at}) || !reflect.DeepEqual(got, api.Port{}) {
		t.Errorf("%s: %v, %v, want %d at %d and nothing else", what, got, f, code, at)
	}
}

func wantConvert(t *testing.T, p api.Port, want api.Port) {
	t.Helper()
	got, f := Convert(p, want.Kind)
	wantPort(t, "Convert", got, f, want)
}

func wantNotAs(t *testing.T, p api.Port, kinds ...int) {
	t.Helper()
	for _, kind := range kinds {
		got, f := Convert(p, kind)
		wantFault(t, "Convert", got, f, api.ErrNone, 0)
	}
}

func wantSame(t *testing.T, p api.Port, want bool) {
	t.Helper()
	if got, f := Same(p); got != want || f != (api.Fault{}) {
		t.Errorf("Same(%v): %v, %v, want %v", p, got, f, want)
	}
}

// One two-port, told four times: each as each.
func TestConvertEachAsEach(t *testing.T) {
	for _, told := range [][]api.Port{
		// 1 Ω, 2 Ω and across them 3 Ω: a T.
		{
			portOf(z, "4", "3", "3", "5"), portOf(y, "5/11", "-3/11", "-3/11", "4/11"),
			portOf(h, "11/5", "3/5", "-3/5", "1/5"), portOf(a, "4/3", "11/3", "1/3", "5/3"),
		},
		// One that doesn't work both ways alike.
		{
			portOf(z, "1", "2", "3", "4"), portOf(y, "-2", "1", "3/2", "-1/2"),
			portOf(h, "-1/2", "1/2", "-3/4", "1/4"), portOf(a, "1/3", "-2/3", "1/3", "4/3"),
		},
		// A resistor, then a capacitor across, then an inductor: all of s.
		{
			portOf(z, "1 1 | 0 1", "1 | 0 1", "1 | 0 1", "1 0 1 | 0 1"), portOf(y, "1 0 1 | 1 1 1", "-1 | 1 1 1", "-1 | 1 1 1", "1 1 | 1 1 1"),
			portOf(h, "1 1 1 | 1 0 1", "1 | 1 0 1", "-1 | 1 0 1", "0 1 | 1 0 1"), portOf(a, "1 1", "1 1 1", "0 1", "1 0 1"),
		},
	} {
		for _, p := range told {
			for _, want := range told {
				wantConvert(t, p, want)
			}
		}
	}
}

// What is told is in lowest terms, of the same kind, too.
func TestConvertTellsLowestTerms(t *testing.T) {
	p := portOf(z, "1 1 | 1 2 1", "2 4 0 | 2 0", "0 0 | 7 5", "x 03/6 | 0 -1/4")
	wantConvert(t, p, portOf(z, "1 | 1 1", "1 2", "", "-2"))
	wantConvert(t, p, portOf(y, "1 1", "1/2 3/2 1", "", "-1/2"))
	wantConvert(t, portOf(y, "0 3 | 6", "|2", "|0 1", "0 0 0 2 | 0 0 1"), portOf(z, "2 | 0 1", "", "", "1/2 | 0 1"))
}

func TestConvertThoseThatCannotBe(t *testing.T) {
	// One part along, one part across: no own i1 and i2, no own v1 and v2.
	wantNotAs(t, portOf(a, "1", "0 1", "", "1"), z)
	wantConvert(t, portOf(a, "1", "0 1", "", "1"), portOf(y, "1 | 0 1", "-1 | 0 1", "-1 | 0 1", "1 | 0 1"))
	wantConvert(t, portOf(a, "1", "0 1", "", "1"), portOf(h, "0 1", "1", "-1", ""))
	wantNotAs(t, portOf(a, "1", "", "0 1", "1"), y)
	wantConvert(t, portOf(a, "1", "", "0 1", "1"), portOf(z, "1 | 0 1", "1 | 0 1", "1 | 0 1", "1 | 0 1"))
	wantConvert(t, portOf(a, "1", "", "0 1", "1"), portOf(h, "", "1", "-1", "0 1"))
	// A transformer has neither; a gyrator has both, but no H.
	wantNotAs(t, portOf(a, "2", "", "", "1/2"), z, y)
	wantConvert(t, portOf(a, "2", "", "", "1/2"), portOf(h, "", "2", "-2", ""))
	wantNotAs(t, portOf(z, "", "-3", "3", ""), h)
	wantConvert(t, portOf(z, "", "-3", "3", ""), portOf(y, "", "1/3", "-1/3", ""))
	wantConvert(t, portOf(z, "", "-3", "3", ""), portOf(a, "", "3", "1/3", ""))
	// What divides, of each kind as each kind.
	wantNotAs(t, portOf(z, "0 1", "1 1", "0 1 | 1 1", "1"), y)
	wantNotAs(t, portOf(z, "1", "2", "3", "0 0"), h)
	wantNotAs(t, portOf(z, "1", "2", "0/5", "3"), a)
	wantNotAs(t, portOf(y, "0 1", "1 1", "0 1 | 1 1", "1"), z)
	wantNotAs(t, portOf(y, "", "2", "3", "1"), h)
	wantNotAs(t, portOf(y, "1", "2", "", "1"), a)
	wantNotAs(t, portOf(h, "1", "2", "3", ""), z)
	wantNotAs(t, portOf(h, "", "2", "3", "1"), y)
	wantNotAs(t, portOf(h, "1", "2", "", "3"), a)
	wantNotAs(t, portOf(a, "1", "2", "", "3"), z)
	wantNotAs(t, portOf(a, "1", "", "2", "3"), y)
	wantNotAs(t, portOf(a, "1", "2", "3", ""), h)
	// Nothing but 0 is told as no other kind; each as its own.
	for _, kind := range kinds {
		nothing := portOf(kind, "", "", "", "")
		for _, other := range kinds {
			if other != kind {
				wantNotAs(t, nothing, other)
			}
		}
		wantConvert(t, nothing, nothing)
	}
	// What isn't 0 for s, though it is somewhere.
	wantConvert(t, portOf(z, "1", "", "-1 1", "0 1"), portOf(a, "1 | -1 1", "0 1 | -1 1", "1 | -1 1", "0 1 | -1 1"))
}

func TestRow(t *testing.T) {
	along, across := portOf(a, "1", "2", "", "1"), portOf(a, "1", "", "0 3", "1")
	got, f := Row(along, across)
	wantPort(t, "along, then across", got, f, portOf(a, "1 6", "2", "0 3", "1"))
	got, f = Row(across, along)
	wantPort(t, "across, then along", got, f, portOf(a, "1", "2", "0 3", "1 6"))
	got, f = Row(portOf(a, "1", "2", "3", "4"), portOf(a, "5", "6", "7", "8"))
	wantPort(t, "numbers", got, f, portOf(a, "19", "22", "43", "50"))
	// Told as other kinds: along 1 Ω, across s F and along 1 Ω, as Y; across 2 Ω, as Z.
	got, f = Row(portOf(y, "1 1 | 2 1", "-1 | 2 1", "-1 | 2 1", "1 1 | 2 1"), portOf(z, "2", "2", "2", "2"))
	wantPort(t, "as Y and Z", got, f, portOf(a, "2 3/2", "2 1", "1/2 3/2", "1 1"))
	got, f = Row(portOf(h, "", "2", "-2", ""), portOf(h, "0 1", "1", "-1", ""))
	wantPort(t, "as H", got, f, portOf(a, "2", "0 2", "", "1/2"))
}

func TestSeriesAndParallel(t *testing.T) {
	p, q := []string{"1 | 0 1", "2", "3", "0 4"}, []string{"0 1", "-2", "1 | 1 1", "0 -4 1"}
	for _, join := range []struct {
		what string
		of   func(a, b api.Port) (api.Port, api.Fault)
		kind int
	}{{"Series", Series, z}, {"Parallel", Parallel, y}} {
		got, f := join.of(portOf(join.kind, p...), portOf(join.kind, q...))
		wantPort(t, join.what, got, f, portOf(join.kind, "1 0 1 | 0 1", "", "4 3 | 1 1", "0 0 1"))
	}
	// Told as other kinds.
	one, other := portOf(z, "4", "3", "3", "5"), portOf(h, "2", "1/2", "-1/2", "1/2")
	got, f := Series(one, other)
	wantPort(t, "Z and H", got, f, portOf(z, "13/2", "4", "4", "7"))
	got, f = Parallel(one, other)
	wantPort(t, "Z and H", got, f, portOf(y, "21/22", "-23/44", "-23/44", "87/88"))
	got, f = Series(portOf(y, "-2", "1", "3/2", "-1/2"), portOf(a, "1/3", "-2/3", "1/3", "4/3"))
	wantPort(t, "Y and A", got, f, portOf(z, "2", "4", "6", "8"))
	got, f = Parallel(portOf(y, "-2", "1", "3/2", "-1/2"), portOf(a, "1/3", "-2/3", "1/3", "4/3"))
	wantPort(t, "Y and A", got, f, portOf(y, "-4", "2", "3", "-1"))
}

func TestThoseThatCannotBeJoined(t *testing.T) {
	good := portOf(z, "1", "2", "3", "4")
	for _, join := range []struct {
		what string
		of   func(a, b api.Port) (api.Port, api.Fault)
		bad  []api.Port
	}{
		{"Row", Row, []api.Port{portOf(z, "1", "2", "", "4"), portOf(y, "1", "2", "", "4"), portOf(h, "1", "2", "", "4")}},
		{"Series", Series, []api.Port{portOf(y, "1", "2", "2", "4"), portOf(h, "1", "2", "3", ""), portOf(a, "1", "0 1", "", "1")}},
		{"Parallel", Parallel, []api.Port{portOf(z, "1", "2", "2", "4"), portOf(h, "", "2", "3", "1"), portOf(a, "1", "", "0 1", "1")}},
	} {
		for _, bad := range join.bad {
			got, f := join.of(bad, good)
			wantFault(t, join.what, got, f, api.ErrNone, 0)
			got, f = join.of(good, bad)
			wantFault(t, join.what, got, f, api.ErrNone, 1)
			got, f = join.of(bad, bad)
			wantFault(t, join.what, got, f, api.ErrNone, 0)
			// What is wrong with the second goes ahead.
			got, f = join.of(bad, api.Port{})
			wantFault(t, join.what, got, f, api.ErrKind, 1)
			got, f = join.of(bad, portOf(z, "1", "2", "3", "4 |"))
			wantFault(t, join.what, got, f, api.ErrZero, 1)
		}
	}
}

func TestSame(t *testing.T) {
	wantSame(t, portOf(z, "7", "1 | 0 1", "2 2 | 0 2 2", "9"), true)
	wantSame(t, portOf(z, "7", "1 | 0 1", "2 2 | 0 2", "9"), false)
	wantSame(t, portOf(z, "7", "1", "-1", "9"), false)
	wantSame(t, portOf(y, "", "0 0", "x | 5", ""), true)
	wantSame(t, portOf(y, "7", "-1 | 2", "1 | -2", "9"), true)
	wantSame(t, portOf(y, "7", "1", "-1", "7"), false)
	wantSame(t, portOf(h, "7", "1 1", "-1 -1", "9"), true)
	wantSame(t, portOf(h, "7", "1 1", "1 1", "9"), false)
	wantSame(t, portOf(h, "7", "", "", "9"), true)
	wantSame(t, portOf(a, "1 6", "2", "0 3", "1"), true)
	wantSame(t, portOf(a, "1 6", "2", "0 3", "-1"), false)
	wantSame(t, portOf(a, "1", "0 5", "0 5", "1"), false)
	wantSame(t, portOf(a, "1 | 1 1", "", "8", "1 1"), true)
	wantSame(t, portOf(a, "", "1", "1", ""), false)
	wantSame(t, portOf(a, "", "1", "-1", ""), true)
	wantSame(t, portOf(a, "", "", "", ""), false)
}

func wantOf(t *testing.T, n api.Net, a, b int, want ...string) {
	t.Helper()
	got, f := Of(n, a, b)
	wantPort(t, "Of", got, f, portOf(z, want...))
}

func wantOfFault(t *testing.T, n api.Net, a, b int, code api.Errno, at int) {
	t.Helper()
	got, f := Of(n, a, b)
	wantFault(t, "Of", got, f, code, at)
}

func TestOf(t *testing.T) {
	// A T of 1 Ω, 1/s and s.
	tee := netOf(4, part(api.R, 1, 2, "1"), part(api.C, 2, 0, "1"), part(api.L, 2, 3, "1"))
	wantOf(t, tee, 1, 3, "1 1 | 0 1", "1 | 0 1", "1 | 0 1", "1 0 1 | 0 1")
	wantOf(t, tee, 3, 1, "1 0 1 | 0 1", "1 | 0 1", "1 | 0 1", "1 1 | 0 1")
	wantOf(t, tee, 2, 3, "1 | 0 1", "1 | 0 1", "1 | 0 1", "1 0 1 | 0 1")
	// Side by side: nothing goes over.
	wantOf(t, netOf(3, part(api.R, 1, 0, "2"), part(api.C, 2, 0, "1/2")), 1, 2, "2", "", "", "2 | 0 1")
	// What V and I have counts for nothing: a joint, and a gap.
	wantOf(t, netOf(4, part(api.V, 3, 0, "7"), part(api.R, 1, 3, "2"), part(api.I, 1, 2, "5"), part(api.R, 2, 1, "3"), part(api.I, 0, 2, "1/9")), 1, 2, "2", "2", "2", "5")
	wantOf(t, netOf(3, part(api.V, 1, 0, "7"), part(api.R, 1, 2, "2")), 1, 2, "", "", "", "2")
	wantOf(t, netOf(3, part(api.V, 1, 2, "7"), part(api.R, 1, 0, "2")), 1, 2, "2", "2", "2", "2")
}

// What is led needn't work both ways alike: the second fraction is what is at a for what is pushed to b.
func TestOfWhatIsLed(t *testing.T) {
	wantOf(t, netOf(3, part(api.R, 1, 0, "2"), part(api.C, 2, 0, "5"), led(api.G, 2, 0, 1, 0, "3")), 1, 2, "2", "", "-6/5 | 0 1", "1/5 | 0 1")
	wantOf(t, netOf(4, part(api.R, 1, 0, "2"), led(api.E, 3, 0, 1, 0, "3"), part(api.L, 3, 2, "5")), 1, 2, "2", "", "6", "0 5")
	// A gyrator.
	wantOf(t, netOf(3, led(api.G, 1, 0, 2, 0, "1/3"), led(api.G, 2, 0, 0, 1, "1/3")), 1, 2, "", "-3", "3", "")
}

func TestOfNetsWithNoAnswerOrMany(t *testing.T) {
	r := part(api.R, 1, 0, "1")
	// Nowhere to go, from the one or from the other.
	wantOfFault(t, netOf(3), 1, 2, api.ErrNone, 0)
	wantOfFault(t, netOf(3, r), 2, 1, api.ErrNone, 0)
	wantOfFault(t, netOf(3, part(api.R, 1, 2, "1")), 1, 2, api.ErrNone, 0)
	// For the first there are many, for the second none: the first is told.
	wantOfFault(t, netOf(3, r), 1, 2, api.ErrFree, 0)
	wantOfFault(t, netOf(4, r, part(api.C, 2, 3, "1")), 1, 2, api.ErrFree, 0)
	wantOfFault(t, netOf(4, r, part(api.C, 2, 3, "1")), 2, 1, api.ErrNone, 0)
	// Many for both.
	wantOfFault(t, netOf(4, r, part(api.R, 2, 0, "1")), 1, 2, api.ErrFree, 0)
	wantOfFault(t, netOf(3, r, part(api.V, 1, 2, "1"), part(api.V, 1, 2, "1")), 1, 2, api.ErrFree, 0)
	// Sources that don't fit each other fit in many ways at 0.
	wantOfFault(t, netOf(3, r, part(api.V, 1, 2, "1"), part(api.V, 1, 2, "2")), 1, 2, api.ErrFree, 0)
	// What pushes into nowhere pushes nothing at 0: that one node may be anywhere.
	wantOfFault(t, netOf(4, r, part(api.R, 1, 2, "1"), part(api.I, 0, 3, "1")), 1, 2, api.ErrFree, 0)
	// An answer in s, though at rest there is none.
	wantOf(t, netOf(3, part(api.C, 1, 0, "1"), part(api.L, 1, 2, "1"), part(api.L, 1, 2, "1")), 1, 2, "1 | 0 1", "1 | 0 1", "1 | 0 1", "1 0 1/2 | 0 1")
}

func TestOfNodesThatAreNotThere(t *testing.T) {
	n := netOf(3, part(api.R, 1, 0, "1"), part(api.R, 1, 2, "1"))
	wantOf(t, n, 1, 2, "1", "1", "1", "2")
	for _, node := range []int{0, -1, 3, math.MaxInt, math.MinInt} {
		wantOfFault(t, n, node, 1, api.ErrNode, 2)
		wantOfFault(t, n, 1, node, api.ErrNode, 3)
		wantOfFault(t, n, node, node, api.ErrNode, 2)
		// Ahead of nets that have no answer, behind what is wrong with the net.
		wantOfFault(t, netOf(3), node, 1, api.ErrNode, 0)
		wantOfFault(t, netOf(3), 1, node, api.ErrNode, 1)
		wantOfFault(t, netOf(3, part(api.R, 1, 0, "1"), part(api.R, 1, 2, "0")), node, node, api.ErrValue, 1)
	}
	wantOfFault(t, n, 1, 1, api.ErrNode, 3)
	wantOfFault(t, n, 2, 2, api.ErrNode, 3)
	wantOfFault(t, netOf(3), 1, 1, api.ErrNode, 1)
	// One node, or two, are too few.
	wantOfFault(t, netOf(1), 0, 0, api.ErrNode, 0)
	wantOfFault(t, netOf(2, part(api.R, 1, 0, "1")), 1, 0, api.ErrNode, 2)
	wantOfFault(t, netOf(2, part(api.R, 1, 0, "1")), 1, 1, api.ErrNode, 2)
}

func TestOfFaultsOfNets(t *testing.T) {
	for _, nodes := range []int{0, -1, api.MaxNodes + 1, math.MaxInt, math.MinInt} {
		wantOfFault(t, netOf(nodes), 1, 2, api.ErrMany, 0)
	}
	wantOfFault(t, netOf(3, slices.Repeat([]api.Part{part(api.R, 0, 1, "1")}, api.MaxParts+1)...), 1, 2, api.ErrMany, 0)
	for code, wrong := range map[api.Errno][]api.Part{
		api.ErrKind:  {part(api.D, 1, 0, ""), part(0, 1, 0, "1"), part(-1, 1, 0, "1"), part(9, 9, 9, "1")},
		api.ErrNode:  {part(api.R, 3, 0, "1"), part(api.L, 0, -1, "1"), led(api.E, 1, 0, 3, 0, "1"), led(api.G, 1, 0, 0, -1, "1")},
		api.ErrValue: {part(api.R, 1, 0, "0"), part(api.L, 1, 0, "-1"), part(api.C, 1, 0, "x")},
		api.ErrForm:  {led(api.C, 1, 0, 1, 0, "1"), led(api.V, 1, 0, 0, 1, "1"), led(api.I, 1, 0, 0, -1, "1")},
	} {
		for _, p := range wrong {
			wantOfFault(t, netOf(3, part(api.R, 1, 0, "1"), p, part(0, 0, 0, "")), 1, 2, code, 1)
			wantOfFault(t, netOf(3, p, part(api.D, 1, 0, "")), -1, 99, code, 0)
		}
	}
}

// As many nodes and parts as there may be: what pushes is one more.
func TestOfAsManyAsThereMayBe(t *testing.T) {
	n := netOf(api.MaxNodes)
	for node := 1; node < api.MaxNodes; node++ {
		n.Parts = append(n.Parts, part(api.R, node-1, node, "1"))
	}
	n.Parts = append(n.Parts, slices.Repeat([]api.Part{part(api.C, 7, 6, "1/9")}, 9)...)
	if len(n.Parts) != api.MaxParts {
		t.Fatal(len(n.Parts))
	}
	wantOf(t, n, 7, 6, "7 6 | 1 1", "6", "6", "6")
	wantOf(t, n, 1, 7, "1", "1", "1", "7 6 | 1 1")
}

// wrongs has what can be wrong with a fraction.
func wrongs() map[api.Errno][]api.Ratio {
	long := make([]api.Q, api.MaxDegree+2)
	return map[api.Errno][]api.Ratio{
		api.ErrMany: {{Up: long, Down: words("1")}, {Up: words("1"), Down: append(words("1"), long[1:]...)}, {Up: long}, {Down: long}, {Up: long, Down: long}},
		api.ErrZero: {{}, {Up: words("1")}, {Up: words("1"), Down: []api.Q{}}, ratio("1 | 0"), ratio("| 0 x 1/0"), {Up: words("1"), Down: long[1:]}},
	}
}

// wantWrong asks for what is wrong with p of all calls that take one, whatever else is wrong behind it.
func wantWrong(t *testing.T, p api.Port, code api.Errno) {
	t.Helper()
	good := portOf(z, "1", "2", "3", "4")
	for _, kind := range []int{p.Kind, z, y, h, a, 0, 5, -1} {
		got, f := Convert(p, kind)
		wantFault(t, "Convert", got, f, code, 0)
	}
	for _, join := range []func(a, b api.Port) (api.Port, api.Fault){Row, Series, Parallel} {
		got, f := join(p, good)
		wantFault(t, "first", got, f, code, 0)
		got, f = join(good, p)
		wantFault(t, "second", got, f, code, 1)
		got, f = join(p, api.Port{})
		wantFault(t, "first of wrong ones", got, f, code, 0)
		got, f = join(api.Port{}, p)
		wantFault(t, "second of wrong ones", got, f, api.ErrKind, 0)
		got, f = join(portOf(z, "1", "2", "3 |", "4"), p)
		wantFault(t, "second of wrong ones", got, f, api.ErrZero, 0)
	}
	if got, f := Same(p); got || f != (api.Fault{Code: code}) {
		t.Errorf("Same(%v): %v, %v", p, got, f)
	}
}

func TestKindsThatAreNone(t *testing.T) {
	for _, kind := range []int{0, 5, -1, math.MaxInt, math.MinInt} {
		wantWrong(t, portOf(kind, "1", "2", "3", "4"), api.ErrKind)
		// Ahead of what is wrong with fractions.
		wantWrong(t, api.Port{Kind: kind}, api.ErrKind)
		for _, own := range kinds {
			got, f := Convert(portOf(own, "1", "2", "3", "4"), kind)
			wantFault(t, "Convert", got, f, api.ErrKind, 1)
			// Ahead of those that can't be.
			got, f = Convert(portOf(own, "", "", "", ""), kind)
			wantFault(t, "Convert", got, f, api.ErrKind, 1)
		}
	}
}

func TestFractionsThatAreNone(t *testing.T) {
	for code, l := range wrongs() {
		for _, wrong := range l {
			for place := range 4 {
				for _, kind := range kinds {
					p := portOf(kind, "1", "2", "3", "4")
					p.M[place] = wrong
					wantWrong(t, p, code)
				}
			}
		}
	}
}

// The first fraction with which something is wrong is told.
func TestTheFirstOfSeveralFractions(t *testing.T) {
	for code, l := range wrongs() {
		for other, m := range wrongs() {
			for place := range 3 {
				p := portOf(h, "1", "2", "3", "4")
				p.M[place] = l[0]
				for behind := place + 1; behind < 4; behind++ {
					p.M[behind] = m[0]
				}
				if _, f := Same(p); f != (api.Fault{Code: code}) {
					t.Errorf("%d at %d, then %d: %v", code, place, other, f)
				}
			}
		}
	}
}

// As long as may be, in each place, and noughts at the end; what comes of it may be longer.
func TestFractionsAsLongAsMayBe(t *testing.T) {
	full := slices.Repeat([]api.Q{"1"}, api.MaxDegree+1)
	p := portOf(z, "1", "", "", "1")
	p.M[0] = api.Ratio{Up: full, Down: append(words("1"), make([]api.Q, api.MaxDegree)...)}
	p.M[3] = api.Ratio{Up: words("1"), Down: full}
	wantConvert(t, p, api.Port{Kind: z, M: [4]api.Ratio{{Up: full, Down: words("1")}, ratio(""), ratio(""), {Up: words("1"), Down: full}}})
	wantConvert(t, p, api.Port{Kind: y, M: [4]api.Ratio{{Up: words("1"), Down: full}, ratio(""), ratio(""), {Up: full, Down: words("1")}}})
	p.M[1], p.M[2] = ratio("1"), ratio("1")
	wantSame(t, p, true)
	q, f := Row(p, p)
	if f != (api.Fault{}) || len(q.M[0].Up) != 2*api.MaxDegree+1 {
		t.Fatalf("%v, %v", q, f)
	}
	wantWrong(t, q, api.ErrMany)
}
