package move

import (
	"math"
	"reflect"
	"slices"
	"strings"
	"testing"

	"voltaic/api"
)

func part(kind, a, b int, value api.Q) api.Part {
	return api.Part{Kind: kind, A: a, B: b, Value: value}
}

func led(kind, a, b, c, d int, value api.Q) api.Part {
	return api.Part{Kind: kind, A: a, B: b, C: c, D: d, Value: value}
}

func netOf(nodes int, parts ...api.Part) api.Net { return api.Net{Nodes: nodes, Parts: parts} }

// words are texts as they stand; _ is the empty one.
func words(text string) []api.Q {
	var out []api.Q
	for _, w := range strings.Fields(text) {
		if w == "_" {
			w = ""
		}
		out = append(out, api.Q(w))
	}
	return out
}

// stateOf reads what is across the parts, and behind a bar what flows.
func stateOf(text string) api.State {
	across, amps, _ := strings.Cut(text, "|")
	return api.State{Across: words(across), Amps: words(amps)}
}

func sameState(a, b api.State) bool {
	return slices.Equal(a.Across, b.Across) && slices.Equal(a.Amps, b.Amps)
}

// bothWays are the ways that there are.
func bothWays() []int { return []int{api.Trapezoid, api.Backward} }

func wantBegin(t *testing.T, n api.Net, x, want string) {
	t.Helper()
	if got, f := Begin(n, words(x)); !sameState(got, stateOf(want)) || f != (api.Fault{}) {
		t.Errorf("Begin(%v, %s): %v, %v, want %s", n, x, got, f, want)
	}
}

// wantSteps goes step by step from a state on.
func wantSteps(t *testing.T, n api.Net, from string, h api.Q, way int, want ...string) {
	t.Helper()
	s := stateOf(from)
	for i, w := range want {
		next, f := Step(n, s, h, way)
		if !sameState(next, stateOf(w)) || f != (api.Fault{}) {
			t.Errorf("Step(%v, %v, %s, %d), the step %d: %v, %v, want %s", n, s, h, way, i, next, f, w)
		}
		s = next
	}
}

func wantPlay(t *testing.T, n api.Net, x string, h api.Q, way int, want ...string) {
	t.Helper()
	got, f := Play(n, words(x), h, way, len(want)-1)
	same := func(s api.State, w string) bool { return sameState(s, stateOf(w)) }
	if !slices.EqualFunc(got, want, same) || f != (api.Fault{}) {
		t.Errorf("Play(%v, %s, %s, %d): %v, %v, want %v", n, x, h, way, got, f, want)
	}
}

func wantEnergy(t *testing.T, n api.Net, s string, want api.Q) {
	t.Helper()
	if got, f := Energy(n, stateOf(s)); got != want || f != (api.Fault{}) {
		t.Errorf("Energy(%v, %s): %s, %v, want %s", n, s, got, f, want)
	}
}

// wantNoBegin and those below ask for a fault, and that nothing else is told.
func wantNoBegin(t *testing.T, n api.Net, x []api.Q, code api.Errno, at int) {
	t.Helper()
	want := api.Fault{Code: code, At: at}
	if s, f := Begin(n, x); s.Across != nil || s.Amps != nil || f != want {
		t.Errorf("Begin(%v, %q): %v, %v, want %v and nothing else", n, x, s, f, want)
	}
}

func wantNoStep(t *testing.T, n api.Net, s api.State, h api.Q, way int, code api.Errno, at int) {
	t.Helper()
	want := api.Fault{Code: code, At: at}
	if next, f := Step(n, s, h, way); next.Across != nil || next.Amps != nil || f != want {
		t.Errorf("Step(%v, %q, %q, %d): %v, %v, want %v and nothing else", n, s, h, way, next, f, want)
	}
}

func wantNoPlay(t *testing.T, n api.Net, x []api.Q, h api.Q, way, steps int, code api.Errno, at int) {
	t.Helper()
	want := api.Fault{Code: code, At: at}
	if l, f := Play(n, x, h, way, steps); l != nil || f != want {
		t.Errorf("Play(%v, %q, %q, %d, %d): %v, %v, want %v and nothing else", n, x, h, way, steps, l, f, want)
	}
}

func wantNoEnergy(t *testing.T, n api.Net, s api.State, code api.Errno, at int) {
	t.Helper()
	want := api.Fault{Code: code, At: at}
	if q, f := Energy(n, s); q != "" || f != want {
		t.Errorf("Energy(%v, %q): %q, %v, want %v and nothing else", n, s, q, f, want)
	}
}

// Ten to the power of 50, and neighbours of it.
const (
	noughts = "00000000000000000000000000000000000000000000000000"
	ten50   = "1" + noughts
	less1   = "99999999999999999999999999999999999999999999999999"
	more1   = "100000000000000000000000000000000000000000000000001"
)

// Nets that many tests play.
func drained() api.Net { return netOf(2, part(api.C, 1, 0, "1"), part(api.R, 1, 0, "1")) }
func slowed() api.Net  { return netOf(2, part(api.L, 1, 0, "2"), part(api.R, 1, 0, "3")) }
func ringing() api.Net { return netOf(2, part(api.L, 1, 0, "1"), part(api.C, 1, 0, "1")) }
func filled() api.Net {
	return netOf(3, part(api.V, 1, 0, "10"), part(api.R, 1, 2, "2"), part(api.C, 2, 0, "3"))
}
func calmed() api.Net {
	return netOf(3, part(api.V, 1, 0, "12"), part(api.L, 1, 2, "1"), part(api.R, 2, 0, "3"), part(api.C, 2, 0, "2"))
}
func pushed() api.Net {
	return netOf(2, part(api.I, 0, 1, "7"), part(api.C, 1, 0, "1"), part(api.L, 1, 0, "1"), part(api.R, 1, 0, "2"))
}
func still() api.Net {
	return netOf(3, part(api.V, 1, 0, "10"), part(api.R, 1, 2, "2"), part(api.R, 2, 0, "3"))
}

// ledE and ledG have what is across a capacitor lead a source.
func ledE() api.Net {
	return netOf(4, part(api.V, 1, 0, "2"), part(api.R, 1, 2, "1"), part(api.C, 2, 0, "1"), led(api.E, 3, 0, 2, 0, "3"), part(api.R, 3, 0, "3"))
}
func ledG() api.Net {
	return netOf(4, part(api.V, 1, 0, "2"), part(api.R, 1, 2, "1"), part(api.C, 2, 0, "1"), led(api.G, 3, 0, 0, 2, "2"), part(api.R, 3, 0, "3"))
}

func TestBegin(t *testing.T) {
	wantBegin(t, drained(), "1", "1 1 | -1 1")
	wantBegin(t, slowed(), "6", "-18 -18 | 6 -6")
	wantBegin(t, filled(), "4", "10 6 4 | -3 3 3")
	wantBegin(t, calmed(), "5 9", "12 3 9 9 | -5 5 3 2")
	wantBegin(t, pushed(), "3 5", "-3 3 3 3 | 7 1/2 5 3/2")
	wantBegin(t, ringing(), "2 3", "3 3 | 2 -2")
	wantBegin(t, ledE(), "1/2", "2 3/2 1/2 3/2 3/2 | -3/2 3/2 3/2 -1/2 1/2")
	wantBegin(t, ledG(), "1/2", "2 3/2 1/2 3 3 | -3/2 3/2 3/2 -1 1")
}

// The entries of x go by the order of the parts, whichever kind they are of.
func TestBeginInTheOrderOfTheParts(t *testing.T) {
	n := calmed()
	slices.Reverse(n.Parts)
	wantBegin(t, n, "9 5", "9 9 3 12 | 2 3 5 -5")
	many := netOf(4,
		part(api.L, 1, 0, "1"), part(api.R, 1, 0, "2"), part(api.C, 2, 1, "1"), part(api.R, 2, 3, "4"),
		part(api.L, 3, 0, "5"), part(api.R, 3, 0, "1"), part(api.C, 3, 2, "7"),
	)
	wantBegin(t, many, "1 2 3 4", "-20/3 -20/3 2 -4 -2/3 -2/3 4 | 1 -10/3 -7/3 -1 3 -2/3 -10/3")
	// Two that are alike in all are two nevertheless.
	wantBegin(t, netOf(2, part(api.L, 1, 0, "1"), part(api.L, 1, 0, "1"), part(api.R, 0, 1, "1")), "3 5", "-8 -8 8 | 3 5 8")
}

// What is given goes from A to B, as everywhere.
func TestBeginOfPartsTheOtherWayRound(t *testing.T) {
	wantBegin(t, netOf(2, part(api.C, 0, 1, "1"), part(api.R, 1, 0, "1")), "1", "1 -1 | -1 -1")
	wantBegin(t, netOf(2, part(api.L, 0, 1, "2"), part(api.R, 1, 0, "3")), "6", "-18 18 | 6 6")
}

func TestBeginWithoutStores(t *testing.T) {
	wantBegin(t, still(), "", "10 4 6 | -2 2 2")
	wantBegin(t, netOf(1), "", "|")
	wantBegin(t, api.Net{Nodes: 1, Parts: []api.Part{}}, "", "|")
	wantBegin(t, netOf(2, part(api.I, 0, 1, "-7/3"), part(api.R, 1, 0, "3")), "", "7 -7 | -7/3 -7/3")
	if s, f := Begin(still(), []api.Q{}); !sameState(s, stateOf("10 4 6 | -2 2 2")) || f != (api.Fault{}) {
		t.Errorf("%v, %v", s, f)
	}
}

// How great an L or a C is doesn't count at the beginning.
func TestBeginOfAnyValues(t *testing.T) {
	for _, value := range words("1 7 1/3 " + ten50) {
		n := calmed()
		n.Parts[1].Value, n.Parts[3].Value = value, value
		wantBegin(t, n, "5 9", "12 3 9 9 | -5 5 3 2")
	}
}

func TestBeginOfEntriesOfAllForms(t *testing.T) {
	wantBegin(t, drained(), "0", "0 0 | 0 0")
	wantBegin(t, drained(), "-2/3", "-2/3 -2/3 | 2/3 -2/3")
	wantBegin(t, drained(), "-04/006", "-2/3 -2/3 | 2/3 -2/3")
	wantBegin(t, drained(), "6/3", "2 2 | -2 2")
	wantBegin(t, slowed(), "-6", "18 18 | -6 6")
	wantBegin(t, calmed(), "-10/2 0", "12 12 0 0 | 5 -5 0 -5")
	for _, x := range strings.Fields("_ x - 1.5 +1 1/ /2 1/0 -1/0 -0 0/5 --1 1/-1 1/2/3 1e3 １") {
		wantBegin(t, drained(), x, "0 0 | 0 0")
	}
	wantBegin(t, calmed(), "x 9", "12 3 9 9 | 0 0 3 -3")
	wantBegin(t, drained(), ten50, ten50+" "+ten50+" | -"+ten50+" "+ten50)
	wantBegin(t, slowed(), "-1/"+ten50, "3/"+ten50+" 3/"+ten50+" | -1/"+ten50+" 1/"+ten50)
	wantBegin(t, ringing(), more1+"/"+ten50+" "+ten50+"/"+more1, ten50+"/"+more1+" "+ten50+"/"+more1+" | "+more1+"/"+ten50+" -"+more1+"/"+ten50)
}

// From a node to itself nothing is across: so an L may lead there what it will, but a C has nothing across it, and anything may flow.
func TestBeginOfPartsFromANodeToItself(t *testing.T) {
	wantBegin(t, netOf(1, part(api.L, 0, 0, "1")), "5", "0 | 5")
	wantBegin(t, netOf(2, part(api.R, 1, 0, "1"), part(api.L, 1, 1, "1")), "-1/2", "0 0 | 0 -1/2")
	wantNoBegin(t, netOf(1, part(api.C, 0, 0, "1")), words("5"), api.ErrNone, 0)
	wantNoBegin(t, netOf(1, part(api.C, 0, 0, "1")), words("0"), api.ErrFree, 0)
}

func TestBeginWithNoAnswerOrMany(t *testing.T) {
	// A battery or another capacitor beside a capacitor.
	beside := netOf(2, part(api.V, 1, 0, "5"), part(api.C, 1, 0, "2"))
	wantNoBegin(t, beside, words("4"), api.ErrNone, 0)
	wantNoBegin(t, beside, words("5"), api.ErrFree, 0)
	two := netOf(2, part(api.C, 1, 0, "1"), part(api.C, 0, 1, "2"), part(api.R, 1, 0, "1"))
	wantNoBegin(t, two, words("1 1"), api.ErrNone, 0)
	wantNoBegin(t, two, words("1 -1"), api.ErrFree, 0)
	// A source or another inductor in a row with an inductor.
	row := netOf(3, part(api.I, 0, 1, "5"), part(api.L, 1, 2, "1"), part(api.R, 2, 0, "1"))
	wantNoBegin(t, row, words("4"), api.ErrNone, 0)
	wantNoBegin(t, row, words("5"), api.ErrFree, 0)
	// Nodes that hang on nothing.
	wantNoBegin(t, netOf(2), nil, api.ErrFree, 0)
	wantNoBegin(t, netOf(3, drained().Parts...), words("1"), api.ErrFree, 0)
	wantNoBegin(t, netOf(3, part(api.C, 1, 2, "1"), part(api.R, 1, 2, "1")), words("1"), api.ErrFree, 0)
	wantNoBegin(t, netOf(2, part(api.L, 1, 0, "1")), words("1"), api.ErrNone, 0)
	wantNoBegin(t, netOf(2, part(api.L, 1, 0, "1")), words("0"), api.ErrFree, 0)
	// What leads itself.
	wantNoBegin(t, netOf(2, led(api.E, 1, 0, 1, 0, "1"), part(api.L, 1, 0, "1")), words("1"), api.ErrFree, 0)
	wantNoBegin(t, netOf(2, led(api.G, 1, 0, 1, 0, "-1"), part(api.R, 1, 0, "1"), part(api.L, 1, 0, "1")), words("1"), api.ErrNone, 0)
	// No answer goes ahead of more than one.
	wantNoBegin(t, netOf(3, part(api.V, 1, 0, "5"), part(api.C, 1, 0, "2")), words("4"), api.ErrNone, 0)
}

func TestBeginOfTooFewAndTooMany(t *testing.T) {
	for _, x := range []string{"", "1 2", "1 2 3", "x x"} {
		wantNoBegin(t, drained(), words(x), api.ErrCount, 2)
		wantNoBegin(t, filled(), words(x), api.ErrCount, 3)
	}
	for _, x := range []string{"", "1", "1 2 3", "1 2 3 4"} { // as many as parts, too
		wantNoBegin(t, calmed(), words(x), api.ErrCount, 4)
	}
	wantNoBegin(t, still(), words("1"), api.ErrCount, 3)
	wantNoBegin(t, netOf(1), words("1"), api.ErrCount, 0)
	// Ahead of nets that have no answer, or many.
	wantNoBegin(t, netOf(2), words("1"), api.ErrCount, 0)
	wantNoBegin(t, netOf(2, part(api.V, 1, 0, "5"), part(api.C, 1, 0, "2")), nil, api.ErrCount, 2)
	wantNoBegin(t, netOf(2, part(api.L, 1, 0, "1")), words("1 1"), api.ErrCount, 1)
}

func TestStepsBackward(t *testing.T) {
	w := api.Backward
	wantSteps(t, drained(), "1 1 | -1 1", "1", w, "1/2 1/2 | -1/2 1/2", "1/4 1/4 | -1/4 1/4", "1/8 1/8 | -1/8 1/8")
	wantSteps(t, slowed(), "-18 -18 | 6 -6", "1", w, "-36/5 -36/5 | 12/5 -12/5", "-72/25 -72/25 | 24/25 -24/25")
	wantSteps(t, ringing(), "1 1 | 0 0", "1", w, "1/2 1/2 | 1/2 -1/2", "0 0 | 1/2 -1/2", "-1/4 -1/4 | 1/4 -1/4")
	wantSteps(t, filled(), "10 6 4 | -3 3 3", "2", w, "10 9/2 11/2 | -9/4 9/4 9/4", "10 27/8 53/8 | -27/16 27/16 27/16")
	wantSteps(t, calmed(), "12 3 9 9 | -5 5 3 2", "1", w,
		"12 3/2 21/2 21/2 | -13/2 13/2 7/2 3",
		"12 3/20 237/20 237/20 | -133/20 133/20 79/20 27/10",
		"12 -141/200 2541/200 2541/200 | -1189/200 1189/200 847/200 171/100",
	)
	wantSteps(t, pushed(), "-3 3 3 3 | 7 1/2 5 3/2", "1", w, "-2 2 2 2 | 7 -1 7 1", "-4/5 4/5 4/5 4/5 | 7 -6/5 39/5 2/5")
	wantSteps(t, ledE(), "2 3/2 1/2 3/2 3/2 | -3/2 3/2 3/2 -1/2 1/2", "1/2", w,
		"2 1 1 3 3 | -1 1 1 -1 1", "2 2/3 4/3 4 4 | -2/3 2/3 2/3 -4/3 4/3")
	wantSteps(t, ledG(), "2 3/2 1/2 3 3 | -3/2 3/2 3/2 -1 1", "1/2", w, "2 1 1 6 6 | -1 1 1 -2 2")
	wantSteps(t, still(), "10 4 6 | -2 2 2", "2", w, "10 4 6 | -2 2 2", "10 4 6 | -2 2 2")
}

func TestStepsByTrapezoids(t *testing.T) {
	w := api.Trapezoid
	wantSteps(t, drained(), "1 1 | -1 1", "1", w, "1/3 1/3 | -1/3 1/3", "1/9 1/9 | -1/9 1/9", "1/27 1/27 | -1/27 1/27")
	wantSteps(t, slowed(), "-18 -18 | 6 -6", "1", w, "-18/7 -18/7 | 6/7 -6/7", "-18/49 -18/49 | 6/49 -6/49")
	wantSteps(t, ringing(), "1 1 | 0 0", "1", w, "3/5 3/5 | 4/5 -4/5", "-7/25 -7/25 | 24/25 -24/25", "-117/125 -117/125 | 44/125 -44/125")
	wantSteps(t, filled(), "10 6 4 | -3 3 3", "2", w, "10 30/7 40/7 | -15/7 15/7 15/7", "10 150/49 340/49 | -75/49 75/49 75/49")
	wantSteps(t, calmed(), "12 3 9 9 | -5 5 3 2", "1", w,
		"12 45/29 303/29 303/29 | -211/29 211/29 101/29 110/29",
		"12 -285/841 10377/841 10377/841 | -6629/841 6629/841 3459/841 3170/841",
		"12 -44595/24389 337263/24389 337263/24389 | -165811/24389 165811/24389 112421/24389 53390/24389",
	)
	wantSteps(t, pushed(), "-3 3 3 3 | 7 1/2 5 3/2", "1", w, "-7/3 7/3 7/3 7/3 | 7 -11/6 23/3 7/6", "-1/3 1/3 1/3 1/3 | 7 -13/6 9 1/6")
	wantSteps(t, ledE(), "2 3/2 1/2 3/2 3/2 | -3/2 3/2 3/2 -1/2 1/2", "1/2", w,
		"2 9/10 11/10 33/10 33/10 | -9/10 9/10 9/10 -11/10 11/10", "2 27/50 73/50 219/50 219/50 | -27/50 27/50 27/50 -73/50 73/50")
	wantSteps(t, ledG(), "2 3/2 1/2 3 3 | -3/2 3/2 3/2 -1 1", "1/2", w, "2 9/10 11/10 33/5 33/5 | -9/10 9/10 9/10 -11/5 11/5")
	wantSteps(t, still(), "10 4 6 | -2 2 2", "2", w, "10 4 6 | -2 2 2", "10 4 6 | -2 2 2")
}

func TestStepsThatAreSmallAndGreat(t *testing.T) {
	for _, h := range words("1/10 100/1000 01/010") {
		wantSteps(t, drained(), "1 1 | -1 1", h, api.Backward, "10/11 10/11 | -10/11 10/11", "100/121 100/121 | -100/121 100/121")
		wantSteps(t, drained(), "1 1 | -1 1", h, api.Trapezoid, "19/21 19/21 | -19/21 19/21", "361/441 361/441 | -361/441 361/441")
		wantSteps(t, slowed(), "-18 -18 | 6 -6", h, api.Backward, "-360/23 -360/23 | 120/23 -120/23")
		wantSteps(t, slowed(), "-18 -18 | 6 -6", h, api.Trapezoid, "-666/43 -666/43 | 222/43 -222/43")
	}
	wantSteps(t, drained(), "1 1 | -1 1", "1000", api.Backward, "1/1001 1/1001 | -1/1001 1/1001", "1/1002001 1/1002001 | -1/1002001 1/1002001")
	wantSteps(t, drained(), "1 1 | -1 1", "1000", api.Trapezoid, "-499/501 -499/501 | 499/501 -499/501")
	wantSteps(t, slowed(), "-18 -18 | 6 -6", "1000", api.Trapezoid, "13482/751 13482/751 | -4494/751 4494/751")
	wantSteps(t, drained(), "1 1 | -1 1", "1"+noughts, api.Backward, "1/"+more1+" 1/"+more1+" | -1/"+more1+" 1/"+more1)
	wantSteps(t, drained(), "1 1 | -1 1", "1/"+ten50, api.Backward, ten50+"/"+more1+" "+ten50+"/"+more1+" | -"+ten50+"/"+more1+" "+ten50+"/"+more1)
	wantSteps(t, drained(), "1 1 | -1 1", "2/"+ten50, api.Trapezoid, less1+"/"+more1+" "+less1+"/"+more1+" | -"+less1+"/"+more1+" "+less1+"/"+more1)
	wantSteps(t, drained(), ten50+" x | -"+ten50+" x", "1", api.Backward, "5"+noughts[1:]+" 5"+noughts[1:]+" | -5"+noughts[1:]+" 5"+noughts[1:])
}

// Whether what s tells could be, isn't asked for; of L and C it counts, of all others it doesn't. Backward, only what is kept counts.
func TestStepsFromAnyState(t *testing.T) {
	for _, other := range []string{"9 | 5 7", "0 | 5 0", "x | 5 1/0", ten50 + " | 5 -" + ten50} {
		wantSteps(t, drained(), "3 "+other, "1", api.Backward, "3/2 3/2 | -3/2 3/2")
		wantSteps(t, drained(), "3 "+other, "1", api.Trapezoid, "11/3 11/3 | -11/3 11/3")
		wantSteps(t, netOf(2, part(api.L, 1, 0, "1"), part(api.R, 1, 0, "1")), "3 "+other, "1", api.Backward, "-5/2 -5/2 | 5/2 -5/2")
		wantSteps(t, netOf(2, part(api.L, 1, 0, "1"), part(api.R, 1, 0, "1")), "3 "+other, "1", api.Trapezoid, "-13/3 -13/3 | 13/3 -13/3")
	}
	wantSteps(t, drained(), "3 9 | 1/7 7", "1", api.Backward, "3/2 3/2 | -3/2 3/2")
	wantSteps(t, slowed(), "1/7 9 | 6 7", "1", api.Backward, "-36/5 -36/5 | 12/5 -12/5")
	wantSteps(t, drained(), "6/2 _ | 010/2 _", "2/2", api.Trapezoid, "11/3 11/3 | -11/3 11/3")
	wantSteps(t, drained(), "x 1 | 1/0 1", "1", api.Trapezoid, "0 0 | 0 0")
	for _, w := range bothWays() {
		wantSteps(t, still(), "7 7 7 | 7 7 7", "2", w, "10 4 6 | -2 2 2")
		wantSteps(t, netOf(1), "|", "1", w, "|", "|")
	}
}

// What Begin can't tell may be reached by a step: a battery beside a capacitor, a source in a row with an inductor.
func TestStepsWhereBeginHasNoAnswer(t *testing.T) {
	beside := netOf(2, part(api.V, 1, 0, "5"), part(api.C, 1, 0, "2"))
	wantSteps(t, beside, "5 4 | 0 0", "1", api.Backward, "5 5 | -2 2", "5 5 | 0 0")
	wantSteps(t, beside, "5 4 | 0 0", "1", api.Trapezoid, "5 5 | -4 4", "5 5 | 4 -4")
	row := netOf(2, part(api.I, 0, 1, "5"), part(api.L, 1, 0, "3"))
	wantSteps(t, row, "0 0 | 5 4", "1/2", api.Backward, "-6 6 | 5 5", "0 0 | 5 5")
	wantSteps(t, row, "0 0 | 5 4", "1/2", api.Trapezoid, "-12 12 | 5 5", "12 -12 | 5 5")
	around := netOf(1, part(api.C, 0, 0, "3"), part(api.L, 0, 0, "3"))
	wantSteps(t, around, "1 0 | 0 2", "1", api.Backward, "0 0 | -3 2", "0 0 | 0 2")
	wantSteps(t, around, "1 1 | 1 2", "1", api.Trapezoid, "0 0 | -7 13/6", "0 0 | 7 13/6")
}

// What is led may take away what a step brings.
func TestStepsWithNoAnswerOrMany(t *testing.T) {
	n := netOf(2, part(api.C, 1, 0, "1"), led(api.G, 1, 0, 1, 0, "-1"))
	wantNoStep(t, n, stateOf("1 1 | 1 -1"), "1", api.Backward, api.ErrNone, 0)
	wantNoStep(t, n, stateOf("0 0 | 0 0"), "1", api.Backward, api.ErrFree, 0)
	wantNoStep(t, n, stateOf("1 1 | 1 -1"), "2", api.Trapezoid, api.ErrNone, 0)
	wantNoStep(t, n, stateOf("1 1 | -1 -1"), "2", api.Trapezoid, api.ErrFree, 0)
	wantSteps(t, n, "1 1 | 1 -1", "2", api.Backward, "-1 -1 | -1 1")
	wantSteps(t, n, "1 1 | 1 -1", "1", api.Trapezoid, "3 3 | 3 -3")
	for _, w := range bothWays() {
		wantNoStep(t, netOf(2), api.State{}, "1", w, api.ErrFree, 0)
		wantNoStep(t, netOf(3, part(api.C, 1, 2, "1")), stateOf("1 | 1"), "1", w, api.ErrFree, 0)
		wantNoStep(t, netOf(2, part(api.V, 1, 0, "1"), part(api.V, 1, 0, "2")), stateOf("0 0 | 0 0"), "1", w, api.ErrNone, 0)
		wantNoStep(t, netOf(2, part(api.V, 1, 0, "1"), part(api.V, 1, 0, "1")), stateOf("0 0 | 0 0"), "1", w, api.ErrFree, 0)
		// No answer goes ahead of more than one.
		wantNoStep(t, netOf(3, part(api.V, 1, 0, "1"), part(api.V, 1, 0, "2")), stateOf("0 0 | 0 0"), "1", w, api.ErrNone, 0)
	}
}

// unsolved have no answer, and more than one.
func unsolved() []api.Net {
	return []api.Net{netOf(2, part(api.V, 1, 0, "1"), part(api.V, 1, 0, "2")), netOf(2, part(api.V, 1, 0, "1"), part(api.V, 1, 0, "1"))}
}

func TestStepsOfWrongLists(t *testing.T) {
	for _, s := range []string{"|", "1 1 |", "| 1 1", "1 1 | 1", "1 | 1 1", "1 | 1", "1 1 1 | 1 1", "1 1 | 1 1 1", "1 1 1 | 1 1 1", "1 1 1 1 |"} {
		for _, n := range append(unsolved(), drained()) {
			for _, h := range words("1 0 -1 x") {
				for _, way := range []int{api.Trapezoid, api.Backward, 0, 3} {
					wantNoStep(t, n, stateOf(s), h, way, api.ErrCount, 2)
				}
			}
			wantNoEnergy(t, n, stateOf(s), api.ErrCount, 2)
		}
	}
	wantNoStep(t, netOf(1), stateOf("1 | 1"), "1", api.Backward, api.ErrCount, 0)
	wantNoStep(t, netOf(1), stateOf("1 |"), "1", api.Backward, api.ErrCount, 0)
	wantNoEnergy(t, netOf(1), stateOf("| 1"), api.ErrCount, 0)
}

func TestStepsOfWrongLengths(t *testing.T) {
	for _, h := range words("0 -1 -1/3 -1/" + ten50 + " _ x 1/0 -0 0/5 1.5 +1 -x") {
		for _, n := range append(unsolved(), drained()) {
			for _, way := range []int{api.Trapezoid, api.Backward, 0, 3} {
				wantNoStep(t, n, stateOf("1 1 | 1 1"), h, way, api.ErrValue, 2)
			}
		}
		wantNoStep(t, netOf(1), api.State{}, h, api.Backward, api.ErrValue, 0)
		wantNoStep(t, calmed(), stateOf("1 1 1 1 | 1 1 1 1"), h, api.Backward, api.ErrValue, 4)
	}
}

func TestStepsOfNoWay(t *testing.T) {
	for _, way := range []int{0, 3, -1, -2, 4, math.MaxInt, math.MinInt} {
		for _, n := range append(unsolved(), drained()) {
			wantNoStep(t, n, stateOf("1 1 | 1 1"), "1", way, api.ErrKind, 2)
		}
		wantNoStep(t, netOf(1), api.State{}, "1", way, api.ErrKind, 0)
		wantNoStep(t, calmed(), stateOf("1 1 1 1 | 1 1 1 1"), "1/2", way, api.ErrKind, 4)
	}
}

func TestPlay(t *testing.T) {
	wantPlay(t, drained(), "1", "1/2", api.Backward, "1 1 | -1 1", "2/3 2/3 | -2/3 2/3", "4/9 4/9 | -4/9 4/9")
	wantPlay(t, drained(), "1", "1", api.Trapezoid, "1 1 | -1 1", "1/3 1/3 | -1/3 1/3", "1/9 1/9 | -1/9 1/9")
	wantPlay(t, ringing(), "0 1", "1", api.Trapezoid, "1 1 | 0 0", "3/5 3/5 | 4/5 -4/5", "-7/25 -7/25 | 24/25 -24/25")
	wantPlay(t, calmed(), "5 9", "1", api.Backward, "12 3 9 9 | -5 5 3 2", "12 3/2 21/2 21/2 | -13/2 13/2 7/2 3")
	wantPlay(t, ledE(), "1/2", "1/2", api.Trapezoid, "2 3/2 1/2 3/2 3/2 | -3/2 3/2 3/2 -1/2 1/2", "2 9/10 11/10 33/10 33/10 | -9/10 9/10 9/10 -11/10 11/10")
	wantPlay(t, drained(), "2/"+ten50, "1", api.Backward, "1/5"+noughts[1:]+" 1/5"+noughts[1:]+" | -1/5"+noughts[1:]+" 1/5"+noughts[1:], "1/"+ten50+" 1/"+ten50+" | -1/"+ten50+" 1/"+ten50)
}

// What is at rest stays so.
func TestPlayAtRest(t *testing.T) {
	for _, way := range bothWays() {
		wantPlay(t, filled(), "10", "1/7", way, slices.Repeat([]string{"10 0 10 | 0 0 0"}, 6)...)
		wantPlay(t, calmed(), "4 12", "5", way, slices.Repeat([]string{"12 0 12 12 | -4 4 4 0"}, 6)...)
		wantPlay(t, still(), "", "5", way, slices.Repeat([]string{"10 4 6 | -2 2 2"}, api.MaxSteps+1)...)
		wantPlay(t, netOf(1), "", "1", way, "|", "|", "|")
	}
}

// Of no steps neither h nor way is asked for.
func TestPlayOfNoSteps(t *testing.T) {
	for _, h := range words("1 0 -1 x _ 1/0") {
		for _, way := range []int{api.Trapezoid, api.Backward, 0, -1, 3, math.MaxInt, math.MinInt} {
			wantPlay(t, drained(), "1", h, way, "1 1 | -1 1")
			wantPlay(t, still(), "", h, way, "10 4 6 | -2 2 2")
		}
	}
}

func TestPlayAsManyStepsAsMayBe(t *testing.T) {
	// Half of it is left each time; the other way a third, of both signs in turn.
	l, f := Play(drained(), words("1"), "1", api.Backward, api.MaxSteps)
	if f != (api.Fault{}) || len(l) != api.MaxSteps+1 || !sameState(l[50], stateOf("1/1125899906842624 1/1125899906842624 | -1/1125899906842624 1/1125899906842624")) {
		t.Errorf("%v, %v", l, f)
	}
	l, f = Play(drained(), words("1"), "4", api.Trapezoid, api.MaxSteps)
	if f != (api.Fault{}) || len(l) != api.MaxSteps+1 || l[49].Across[0] != "-1/239299329230617529590083" || l[50].Across[0] != "1/717897987691852588770249" {
		t.Errorf("%v, %v", l, f)
	}
}

func TestPlayOfWrongNumbersOfSteps(t *testing.T) {
	for _, steps := range []int{-1, -2, api.MaxSteps + 1, 1000, math.MaxInt, math.MinInt} {
		for _, h := range words("1 0 -1 x") {
			for _, way := range []int{api.Trapezoid, api.Backward, 0, 3} {
				wantNoPlay(t, drained(), words("1"), h, way, steps, api.ErrMany, 2)
				wantNoPlay(t, calmed(), words("5 9"), h, way, steps, api.ErrMany, 4)
				wantNoPlay(t, netOf(1), nil, h, way, steps, api.ErrMany, 0)
				// Begin's faults go ahead.
				wantNoPlay(t, drained(), words("1 1"), h, way, steps, api.ErrCount, 2)
				wantNoPlay(t, unsolved()[0], nil, h, way, steps, api.ErrNone, 0)
				wantNoPlay(t, unsolved()[1], nil, h, way, steps, api.ErrFree, 0)
				wantNoPlay(t, netOf(2, part(api.D, 1, 0, "")), nil, h, way, steps, api.ErrKind, 0)
			}
		}
	}
}

func TestPlayHasStepsFaults(t *testing.T) {
	for _, steps := range []int{1, 2, api.MaxSteps} {
		for _, h := range words("0 -1 _ x 1/0") {
			for _, way := range []int{api.Trapezoid, api.Backward, 0, 3} {
				wantNoPlay(t, drained(), words("1"), h, way, steps, api.ErrValue, 2)
				wantNoPlay(t, still(), nil, h, way, steps, api.ErrValue, 3)
			}
		}
		for _, way := range []int{0, 3, -1} {
			wantNoPlay(t, drained(), words("1"), "1", way, steps, api.ErrKind, 2)
			wantNoPlay(t, still(), nil, "1", way, steps, api.ErrKind, 3)
		}
		n := netOf(2, part(api.C, 1, 0, "1"), led(api.G, 1, 0, 1, 0, "-1"))
		wantNoPlay(t, n, words("1"), "1", api.Backward, steps, api.ErrNone, 0)
		wantNoPlay(t, n, words("0"), "1", api.Backward, steps, api.ErrFree, 0)
		wantNoPlay(t, n, words("1"), "2", api.Trapezoid, steps, api.ErrNone, 0)
		wantNoPlay(t, n, words("0"), "2", api.Trapezoid, steps, api.ErrFree, 0)
		wantNoPlay(t, n, words("1"), "1", 0, steps, api.ErrKind, 2)
		wantNoPlay(t, n, words("1"), "0", api.Backward, steps, api.ErrValue, 2)
	}
}

func TestPlayHasBeginsFaults(t *testing.T) {
	for _, steps := range []int{0, 1, api.MaxSteps} {
		for _, h := range words("1 0") {
			for _, way := range []int{api.Trapezoid, api.Backward, 0} {
				wantNoPlay(t, drained(), nil, h, way, steps, api.ErrCount, 2)
				wantNoPlay(t, calmed(), words("1"), h, way, steps, api.ErrCount, 4)
				wantNoPlay(t, still(), words("1"), h, way, steps, api.ErrCount, 3)
				wantNoPlay(t, unsolved()[0], words("1"), h, way, steps, api.ErrCount, 2)
				wantNoPlay(t, unsolved()[0], nil, h, way, steps, api.ErrNone, 0)
				wantNoPlay(t, unsolved()[1], nil, h, way, steps, api.ErrFree, 0)
				// A step could be taken, but there is nothing to begin with.
				beside := netOf(2, part(api.V, 1, 0, "5"), part(api.C, 1, 0, "2"))
				wantNoPlay(t, beside, words("4"), h, way, steps, api.ErrNone, 0)
				wantNoPlay(t, beside, words("5"), h, way, steps, api.ErrFree, 0)
			}
		}
	}
}

func TestEnergy(t *testing.T) {
	wantEnergy(t, slowed(), "-18 -18 | 6 -6", "36")
	wantEnergy(t, filled(), "10 6 4 | -3 3 3", "24")
	wantEnergy(t, calmed(), "12 3 9 9 | -5 5 3 2", "187/2")
	wantEnergy(t, ringing(), "3 3 | 2 -2", "13/2")
	wantEnergy(t, drained(), "1/3 1/3 | -1/3 1/3", "1/18")
	wantEnergy(t, still(), "10 4 6 | -2 2 2", "0")
	wantEnergy(t, netOf(1), "|", "0")
	wantEnergy(t, netOf(2, part(api.I, 0, 1, "7"), led(api.E, 1, 0, 1, 0, "2"), led(api.G, 1, 0, 0, 1, "3")), "1 2 3 | 4 5 6", "0")
	many := netOf(2, part(api.L, 1, 0, "1/2"), part(api.C, 1, 0, "2/3"), part(api.L, 1, 0, "3"), part(api.C, 0, 1, "5"), part(api.L, 0, 0, "7/6"))
	wantEnergy(t, many, "9 1/2 9 -1/3 9 | 1/5 9 -2 9 3/7", "40813/6300")
}

// What an L has across it, and what flows through a C, doesn't count; nor does it whether the state could be.
func TestEnergyOfAnyState(t *testing.T) {
	for _, other := range words("0 7 -1/3 x " + ten50) {
		o := string(other)
		wantEnergy(t, drained(), "-2 "+o+" | "+o+" "+o, "2")
		wantEnergy(t, slowed(), o+" "+o+" | -2 "+o, "4")
	}
	wantEnergy(t, drained(), "6/4 _ | _ _", "9/8")
	wantEnergy(t, drained(), "0 1 | 1 1", "0")
	wantEnergy(t, drained(), "x 1 | 1 1", "0")
	wantEnergy(t, drained(), "1/0 1 | 1 1", "0")
	wantEnergy(t, drained(), ten50+" 1 | 1 1", api.Q("5"+noughts[1:]+noughts))
	wantEnergy(t, drained(), "-1/"+ten50+" 1 | 1 1", "1/2"+noughts+noughts)
	// Nets of which nothing can be told have energy nevertheless.
	wantEnergy(t, netOf(7, part(api.C, 1, 2, "4"), part(api.V, 0, 0, "1")), "3 0 | 0 0", "18")
}

// What chapter 2 says against a net goes ahead of all else.
func TestFaultsOfNets(t *testing.T) {
	wantNothing := func(n api.Net, code api.Errno, at int) {
		t.Helper()
		for _, x := range []string{"", "1", "1 1"} {
			for _, way := range []int{api.Trapezoid, api.Backward, 0} {
				wantNoBegin(t, n, words(x), code, at)
				wantNoPlay(t, n, words(x), "1", way, 1, code, at)
				wantNoPlay(t, n, words(x), "0", way, -1, code, at)
				wantNoStep(t, n, api.State{Across: words(x), Amps: words(x)}, "1", way, code, at)
				wantNoStep(t, n, api.State{Across: words(x)}, "0", way, code, at)
				wantNoEnergy(t, n, api.State{Across: words(x), Amps: words(x)}, code, at)
			}
		}
	}
	for _, nodes := range []int{0, -1, api.MaxNodes + 1, math.MaxInt, math.MinInt} {
		wantNothing(netOf(nodes), api.ErrMany, 0)
	}
	wantNothing(netOf(2, slices.Repeat([]api.Part{part(api.C, 0, 1, "1")}, api.MaxParts+1)...), api.ErrMany, 0)
	for code, wrong := range map[api.Errno][]api.Part{
		api.ErrKind:  {part(api.D, 1, 0, ""), part(0, 1, 0, "1"), part(-1, 1, 0, "1"), part(9, 9, 9, "1")},
		api.ErrNode:  {part(api.L, 3, 0, "1"), part(api.C, 0, -1, "1"), led(api.E, 1, 0, 3, 0, "1"), led(api.G, 1, 0, 0, -1, "1")},
		api.ErrValue: {part(api.R, 1, 0, "0"), part(api.L, 1, 0, "-1"), part(api.C, 1, 0, "x"), part(api.C, 1, 0, "1/0")},
		api.ErrForm:  {led(api.C, 1, 0, 1, 0, "1"), led(api.L, 1, 0, 0, 1, "1"), led(api.I, 1, 0, 0, -1, "1")},
	} {
		for _, p := range wrong {
			wantNothing(netOf(3, part(api.V, 1, 0, "1"), part(api.V, 1, 0, "2"), p, part(0, 0, 0, "")), code, 2)
			wantNothing(netOf(3, p, part(api.D, 1, 0, "")), code, 0)
		}
	}
}

// spoil writes over a list and the spare room behind it.
func spoil(l []api.Q) {
	l = l[:cap(l)]
	for i := range l {
		l[i] = "spoilt"
	}
}

// What is handed in stays, and the spare room behind it, too; what is answered is no one else's.
func TestNothingIsShared(t *testing.T) {
	room := append(calmed().Parts, part(77, 7, 7, "7"), part(78, 8, 8, "8"))
	x, across, amps := words("5 9 7 7"), words("12 3 9 9 7 7"), words("-5 5 3 2 7 7")
	n, s := netOf(3, room[:4]...), api.State{Across: across[:4], Amps: amps[:4]}
	for range 2 {
		begun, _ := Begin(n, x[:2])
		next, _ := Step(n, s, "1", api.Backward)
		played, _ := Play(n, x[:2], "1", api.Backward, 3)
		energy, _ := Energy(n, s)
		if !sameState(begun, s) || !sameState(next, stateOf("12 3/2 21/2 21/2 | -13/2 13/2 7/2 3")) || energy != "187/2" || !sameState(played[0], begun) || !sameState(played[1], next) {
			t.Fatalf("%v, %v, %v, %v", begun, next, played, energy)
		}
		for _, l := range append(played, begun, next) {
			spoil(l.Across)
			if slices.Contains(l.Amps, "spoilt") {
				t.Fatal("across and amps share memory")
			}
			spoil(l.Amps)
		}
	}
	if !reflect.DeepEqual(room[4:], []api.Part{part(77, 7, 7, "7"), part(78, 8, 8, "8")}) || !reflect.DeepEqual(room[:4], calmed().Parts) {
		t.Errorf("the net was changed to %v", room)
	}
	if !slices.Equal(x, words("5 9 7 7")) || !slices.Equal(across, words("12 3 9 9 7 7")) || !slices.Equal(amps, words("-5 5 3 2 7 7")) {
		t.Errorf("what was handed in was changed to %v, %v, %v", x, across, amps)
	}
}

// The states of one Play share no memory with each other.
func TestStatesOfOnePlayAreApart(t *testing.T) {
	l, _ := Play(drained(), words("1"), "1", api.Trapezoid, 2)
	spoil(l[1].Across)
	spoil(l[1].Amps)
	if !sameState(l[0], stateOf("1 1 | -1 1")) || !sameState(l[2], stateOf("1/9 1/9 | -1/9 1/9")) {
		t.Errorf("%v", l)
	}
}
