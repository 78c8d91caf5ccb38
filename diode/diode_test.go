package diode

import (
	"math"
	"slices"
	"strings"
	"testing"

	"voltaic/api"
)

func part(kind, a, b int, value api.Q) api.Part {
	return api.Part{Kind: kind, A: a, B: b, Value: value}
}

func led(kind, a, b, c, d int, value api.Q) api.Part {
	return api.Part{Kind: kind, A: a, B: b, C: c, D: d, Value: value}
}

func diode(a, b int) api.Part { return part(api.D, a, b, "") }

func netOf(nodes int, parts ...api.Part) api.Net { return api.Net{Nodes: nodes, Parts: parts} }

// with is the net with more parts.
func with(n api.Net, more ...api.Part) api.Net {
	return netOf(n.Nodes, slices.Concat(n.Parts, more)...)
}

func words(text string) []api.Q {
	var out []api.Q
	for _, w := range strings.Fields(text) {
		out = append(out, api.Q(w))
	}
	return out
}

// marked reads of each part whether it is a joint: 1 or 0.
func marked(text string) []bool {
	var out []bool
	for _, r := range text {
		out = append(out, r == '1')
	}
	return out
}

// wantSolve has volts and amps as words.
func wantSolve(t *testing.T, n api.Net, volts, amps, on string) {
	t.Helper()
	if f := Check(n); f != (api.Fault{}) {
		t.Errorf("Check(%v): %v", n, f)
	}
	a, got, f := Solve(n)
	if !slices.Equal(a.Volts, words(volts)) || !slices.Equal(a.Amps, words(amps)) || !slices.Equal(got, marked(on)) || f != (api.Fault{}) {
		t.Errorf("Solve(%v): %v, %v, %v, want %s, %s, %s", n, a, got, f, volts, amps, on)
	}
}

// wantNotSolved asks for a fault, and that nothing else is told.
func wantNotSolved(t *testing.T, n api.Net, want api.Fault) {
	t.Helper()
	if a, on, f := Solve(n); a.Volts != nil || a.Amps != nil || on != nil || f != want {
		t.Errorf("Solve(%v): %v, %v, %v, want %v and nothing else", n, a, on, f, want)
	}
}

// wantNone asks for nets with which nothing is wrong, but of whose states none fits.
func wantNone(t *testing.T, n api.Net) {
	t.Helper()
	if f := Check(n); f != (api.Fault{}) {
		t.Errorf("Check(%v): %v", n, f)
	}
	wantNotSolved(t, n, api.Fault{Code: api.ErrNone})
}

// wantFault asks both calls for what is wrong with a net.
func wantFault(t *testing.T, n api.Net, code api.Errno, at int) {
	t.Helper()
	want := api.Fault{Code: code, At: at}
	if f := Check(n); f != want {
		t.Errorf("Check(%v): %v, want %v", n, f, want)
	}
	wantNotSolved(t, n, want)
}

func wantRight(t *testing.T, n api.Net) {
	t.Helper()
	if f := Check(n); f != (api.Fault{}) {
		t.Errorf("Check(%v): %v", n, f)
	}
}

// P13.1

func TestCheckFindsNothing(t *testing.T) {
	wantRight(t, netOf(1))
	wantRight(t, api.Net{Nodes: api.MaxNodes, Parts: []api.Part{}})
	wantRight(t, netOf(3, part(api.V, 1, 0, "1"), part(api.R, 1, 2, "2"), part(api.I, 2, 0, "3")))
	for _, p := range []api.Part{part(api.R, 1, 0, "1"), part(api.V, 1, 0, "-1"), part(api.V, 1, 0, ""), part(api.I, 1, 0, "x"), part(api.I, 1, 1, "0")} {
		wantRight(t, netOf(2, p))
	}
	for _, p := range []api.Part{diode(0, 1), diode(1, 0), diode(0, 0), diode(1, 1)} {
		wantRight(t, netOf(2, p))
		wantRight(t, netOf(2, part(api.R, 1, 0, "1"), p))
	}
	for many := range api.MaxDiodes + 1 {
		diodes := slices.Repeat([]api.Part{diode(7, 0)}, many)
		wantRight(t, netOf(api.MaxNodes, diodes...))
		// Others don't count, wherever they stand.
		others := slices.Repeat([]api.Part{part(api.R, 7, 0, "1")}, api.MaxParts-many)
		wantRight(t, netOf(api.MaxNodes, slices.Concat(diodes, others)...))
		wantRight(t, netOf(api.MaxNodes, slices.Concat(others, diodes)...))
	}
}

func TestCheckTooManyDiodes(t *testing.T) {
	for many := api.MaxDiodes + 1; many <= api.MaxParts; many++ {
		diodes := slices.Repeat([]api.Part{diode(1, 0)}, many)
		wantFault(t, netOf(2, diodes...), api.ErrMany, api.MaxDiodes)
	}
	// The part's number is told, not the diode's.
	one, r := diode(1, 0), part(api.R, 1, 0, "1")
	wantFault(t, netOf(2, one, r, one, one, r, r, one, one, one, r, one, r), api.ErrMany, 10)
	wantFault(t, netOf(2, r, one, r, one, r, one, r, one, r, one, r, one, r, one, r, one), api.ErrMany, 13)
	wantFault(t, netOf(2, r, r, r, r, r, r, r, r, r, one, one, one, one, one, one, one), api.ErrMany, 15)
	// From a node to itself they are diodes, too.
	wantFault(t, netOf(1, slices.Repeat([]api.Part{diode(0, 0)}, 7)...), api.ErrMany, 6)
}

// others are parts of each kind that may not be, with which nothing else is wrong.
func others() []api.Part {
	return []api.Part{part(api.L, 1, 0, "1"), part(api.C, 1, 0, "1"), led(api.E, 1, 0, 1, 0, "1"), led(api.G, 1, 0, 1, 0, "1"), led(api.E, 0, 0, 0, 0, ""), led(api.G, 0, 0, 0, 0, "")}
}

func TestCheckOtherKinds(t *testing.T) {
	for _, p := range others() {
		for at := range api.MaxParts {
			parts := slices.Repeat([]api.Part{part(api.R, 1, 0, "1"), part(api.V, 1, 0, "1"), part(api.I, 1, 0, "1"), diode(1, 0)}, 4)
			parts[3] = part(api.R, 1, 0, "1")
			parts[at] = p
			wantFault(t, netOf(2, parts...), api.ErrKind, at)
			wantFault(t, netOf(2, parts[at:]...), api.ErrKind, 0)
			// The first of several.
			parts[api.MaxParts-1] = part(api.L, 1, 0, "1")
			wantFault(t, netOf(2, parts...), api.ErrKind, at)
		}
	}
}

// wrongs are parts of a net of two nodes with which something is wrong by chapter 2, and what.
func wrongs() map[api.Part]api.Errno {
	return map[api.Part]api.Errno{
		part(0, 1, 0, "1"):                   api.ErrKind,
		part(9, 1, 0, "1"):                   api.ErrKind,
		part(-1, 1, 0, ""):                   api.ErrKind,
		part(math.MaxInt, 1, 0, ""):          api.ErrKind,
		part(math.MinInt, 1, 0, ""):          api.ErrKind,
		part(0, 9, 9, "1"):                   api.ErrKind,
		diode(2, 0):                          api.ErrNode,
		diode(0, 2):                          api.ErrNode,
		diode(-1, 0):                         api.ErrNode,
		diode(0, math.MinInt):                api.ErrNode,
		diode(math.MaxInt, 0):                api.ErrNode,
		part(api.D, 2, 0, "1"):               api.ErrNode,
		part(api.R, 0, 2, "1"):               api.ErrNode,
		part(api.V, 2, 0, "1"):               api.ErrNode,
		part(api.I, 0, -1, "1"):              api.ErrNode,
		part(api.L, 0, 2, "1"):               api.ErrNode,
		part(api.C, 2, 0, "1"):               api.ErrNode,
		led(api.E, 1, 0, 2, 0, "1"):          api.ErrNode,
		led(api.G, 1, 0, 0, -1, "1"):         api.ErrNode,
		part(api.R, 1, 0, ""):                api.ErrValue,
		part(api.R, 1, 0, "0"):               api.ErrValue,
		part(api.R, 1, 0, "-1"):              api.ErrValue,
		part(api.R, 1, 0, "1/0"):             api.ErrValue,
		part(api.R, 1, 0, "1Ω"):              api.ErrValue,
		part(api.L, 1, 0, "0"):               api.ErrValue,
		part(api.C, 1, 0, "-1"):              api.ErrValue,
		led(api.R, 1, 0, 1, 0, "0"):          api.ErrValue,
		part(api.D, 1, 0, "0"):               api.ErrForm,
		part(api.D, 1, 0, "1"):               api.ErrForm,
		part(api.D, 1, 1, " "):               api.ErrForm,
		led(api.D, 1, 0, 1, 0, ""):           api.ErrForm,
		led(api.D, 1, 0, 0, 1, ""):           api.ErrForm,
		led(api.D, 1, 0, 0, -7, ""):          api.ErrForm,
		led(api.R, 1, 0, 1, 0, "1"):          api.ErrForm,
		led(api.V, 1, 0, 0, 1, "1"):          api.ErrForm,
		led(api.I, 1, 0, math.MaxInt, 0, ""): api.ErrForm,
		led(api.L, 1, 0, 1, 1, "1"):          api.ErrForm,
		led(api.C, 1, 0, 1, 1, "1"):          api.ErrForm,
	}
}

func TestCheckWhatChapter2Finds(t *testing.T) {
	for _, nodes := range []int{0, -1, api.MaxNodes + 1, math.MaxInt, math.MinInt} {
		wantFault(t, netOf(nodes), api.ErrMany, 0)
		wantFault(t, netOf(nodes, diode(0, 0)), api.ErrMany, 0)
	}
	for _, p := range []api.Part{part(api.R, 1, 0, "1"), diode(1, 0), part(api.L, 1, 0, "1"), {}} {
		wantFault(t, netOf(2, slices.Repeat([]api.Part{p}, api.MaxParts+1)...), api.ErrMany, 0)
	}
	for p, code := range wrongs() {
		wantFault(t, netOf(2, p), code, 0)
		wantFault(t, netOf(2, part(api.V, 1, 0, "1"), diode(1, 0), p, part(api.R, 1, 0, "1")), code, 2)
	}
}

func TestCheckWhichFaultIsFirst(t *testing.T) {
	seven := slices.Repeat([]api.Part{diode(1, 0)}, api.MaxDiodes+1)
	sixteen := slices.Repeat([]api.Part{diode(1, 0)}, api.MaxParts)
	// Chapter 2's go ahead of all others, at whichever part.
	for p, code := range wrongs() {
		for _, other := range others() {
			wantFault(t, netOf(2, other, other, p), code, 2)
			wantFault(t, netOf(2, p, other), code, 0)
		}
		wantFault(t, netOf(2, slices.Concat(seven, []api.Part{p})...), code, 7)
		wantFault(t, netOf(2, slices.Concat([]api.Part{p}, seven)...), code, 0)
		wantFault(t, netOf(2, slices.Concat(sixteen, []api.Part{p})...), api.ErrMany, 0)
		wantFault(t, netOf(0, p), api.ErrMany, 0)
	}
	wantFault(t, netOf(2, part(api.R, 1, 0, "0"), part(0, 1, 0, "1"), diode(1, 2)), api.ErrValue, 0)
	wantFault(t, netOf(9, others()...), api.ErrMany, 0)
	// Then the first part's, be it of a kind that may not be, or one diode more than may be.
	for _, p := range others() {
		wantFault(t, netOf(2, slices.Concat(seven, []api.Part{p})...), api.ErrMany, 6)
		wantFault(t, netOf(2, slices.Concat([]api.Part{p}, seven)...), api.ErrKind, 0)
		wantFault(t, netOf(2, slices.Concat(seven[:6], []api.Part{p}, seven)...), api.ErrKind, 6)
		wantFault(t, netOf(2, slices.Concat(seven[:3], []api.Part{p}, seven[:4])...), api.ErrKind, 3)
	}
}

// P13.2

// fed is a battery at node 1, which a diode joins to a resistor at node 2, from node 1 on or back to it.
func fed(volts api.Q, d api.Part) api.Net {
	return netOf(3, part(api.V, 1, 0, volts), d, part(api.R, 2, 0, "2"))
}

func TestSolveWithoutDiodes(t *testing.T) {
	wantSolve(t, netOf(1), "0", "", "")
	wantSolve(t, netOf(2, part(api.R, 1, 0, "1")), "0 0", "0", "0")
	wantSolve(t, netOf(3, part(api.V, 1, 0, "10"), part(api.R, 1, 2, "2"), part(api.R, 2, 0, "3")), "0 10 6", "-2 2 2", "000")
	wantSolve(t, netOf(2, part(api.I, 0, 1, "3"), part(api.R, 1, 0, "2"), part(api.R, 0, 1, "4")), "0 4", "3 2 -1", "000")
	wantSolve(t, netOf(1, part(api.I, 0, 0, "7"), part(api.R, 0, 0, "7")), "0", "7 0", "00")
	// The only state there is has no answer, or more than one.
	wantNone(t, netOf(2))
	wantNone(t, netOf(api.MaxNodes))
	wantNone(t, netOf(2, part(api.I, 1, 0, "1")))
	wantNone(t, netOf(2, part(api.I, 1, 0, "0")))
	wantNone(t, netOf(2, part(api.V, 1, 0, "1"), part(api.V, 1, 0, "1")))
	wantNone(t, netOf(2, part(api.V, 1, 0, "1"), part(api.V, 1, 0, "2")))
	wantNone(t, netOf(1, part(api.V, 0, 0, "0")))
}

func TestSolveOneDiode(t *testing.T) {
	wantSolve(t, fed("6", diode(1, 2)), "0 6 6", "-3 3 3", "010")
	wantSolve(t, fed("6", diode(2, 1)), "0 6 0", "0 0 0", "000")
	wantSolve(t, fed("-6", diode(1, 2)), "0 -6 0", "0 0 0", "000")
	wantSolve(t, fed("-6", diode(2, 1)), "0 -6 -6", "3 3 -3", "010")
	// At the other end of the resistor.
	wantSolve(t, netOf(3, part(api.V, 1, 0, "6"), part(api.R, 1, 2, "2"), diode(2, 0)), "0 6 0", "-3 3 3", "001")
	wantSolve(t, netOf(3, part(api.V, 1, 0, "6"), part(api.R, 1, 2, "2"), diode(0, 2)), "0 6 6", "0 0 0", "000")
	// Beside a resistor: it takes all of what flows, or nothing.
	wantSolve(t, netOf(3, part(api.V, 1, 0, "6"), part(api.R, 1, 2, "2"), part(api.R, 2, 0, "1"), diode(2, 0)), "0 6 0", "-3 3 0 3", "0001")
	wantSolve(t, netOf(3, part(api.V, 1, 0, "6"), part(api.R, 1, 2, "2"), part(api.R, 2, 0, "1"), diode(0, 2)), "0 6 2", "-2 2 2 0", "0000")
	// Neither end at the ground, and the diode ahead of all others.
	wantSolve(t, netOf(4, diode(2, 3), part(api.V, 1, 0, "12"), part(api.R, 1, 2, "1"), part(api.R, 3, 0, "3"), part(api.R, 2, 0, "6"), part(api.R, 3, 1, "6")),
		"0 12 42/5 42/5", "11/5 -21/5 18/5 14/5 7/5 -3/5", "100000")
	wantSolve(t, netOf(4, diode(3, 2), part(api.V, 1, 0, "12"), part(api.R, 1, 2, "1"), part(api.R, 3, 0, "3"), part(api.R, 2, 0, "6"), part(api.R, 3, 1, "6")),
		"0 12 72/7 4", "0 -64/21 12/7 4/3 12/7 -4/3", "000000")
}

func TestSolveDiodesInARow(t *testing.T) {
	row := func(volts api.Q, first, second api.Part) api.Net {
		return netOf(4, part(api.V, 1, 0, volts), first, second, part(api.R, 3, 0, "3"))
	}
	wantSolve(t, row("6", diode(1, 2), diode(2, 3)), "0 6 6 6", "-2 2 2 2", "0110")
	wantSolve(t, row("-6", diode(2, 1), diode(3, 2)), "0 -6 -6 -6", "2 2 2 -2", "0110")
	// Against what would flow: with two gaps node 2 might be anywhere, so one is a joint.
	wantSolve(t, row("6", diode(2, 1), diode(3, 2)), "0 6 6 0", "0 0 0 0", "0100")
	wantSolve(t, row("-6", diode(1, 2), diode(2, 3)), "0 -6 -6 0", "0 0 0 0", "0100")
	// Two against each other: node 2 goes with the higher one, or with the lower one.
	wantSolve(t, row("6", diode(1, 2), diode(3, 2)), "0 6 6 0", "0 0 0 0", "0100")
	wantSolve(t, row("6", diode(2, 1), diode(2, 3)), "0 6 0 0", "0 0 0 0", "0010")
	wantSolve(t, row("-6", diode(1, 2), diode(3, 2)), "0 -6 0 0", "0 0 0 0", "0010")
	wantSolve(t, row("-6", diode(2, 1), diode(2, 3)), "0 -6 -6 0", "0 0 0 0", "0100")
	// As many as may be: the last state of all.
	all := netOf(8, part(api.V, 1, 0, "6"), diode(1, 2), diode(2, 3), diode(3, 4), diode(4, 5), diode(5, 6), diode(6, 7), part(api.R, 7, 0, "3"))
	wantSolve(t, all, "0 6 6 6 6 6 6 6", "-2 2 2 2 2 2 2 2", "01111110")
	all.Parts[4] = diode(5, 4)
	wantSolve(t, all, "0 6 6 6 6 0 0 0", "0 0 0 0 0 0 0 0", "01110110")
}

func TestSolveDiodesBesideEachOther(t *testing.T) {
	beside := func(volts api.Q, diodes ...api.Part) api.Net {
		return with(netOf(3, part(api.V, 1, 0, volts), part(api.R, 2, 0, "2")), diodes...)
	}
	one, back := diode(1, 2), diode(2, 1)
	wantSolve(t, beside("6", one, one), "0 6 6", "-3 3 3 0", "0010")
	wantSolve(t, beside("6", back, back), "0 6 0", "0 0 0 0", "0000")
	wantSolve(t, beside("6", one, back), "0 6 6", "-3 3 3 0", "0010")
	wantSolve(t, beside("6", back, one), "0 6 6", "-3 3 0 3", "0001")
	wantSolve(t, beside("-6", one, back), "0 -6 -6", "3 -3 0 3", "0001")
	wantSolve(t, beside("6", one, one, one, one, one, one), "0 6 6", "-3 3 3 0 0 0 0 0", "00100000")
	wantSolve(t, beside("6", back, back, back, back, back, one), "0 6 6", "-3 3 0 0 0 0 0 3", "00000001")
	// Against each other around one node: a limit either way.
	limited := func(volts api.Q) api.Net {
		return netOf(5, part(api.V, 1, 0, volts), part(api.R, 1, 2, "2"), diode(2, 3), part(api.V, 3, 0, "5"), diode(4, 2), part(api.V, 4, 0, "-3"), part(api.R, 2, 0, "2"))
	}
	wantSolve(t, limited("8"), "0 8 4 5 -3", "-2 2 0 0 0 0 2", "0000000")
	wantSolve(t, limited("14"), "0 14 5 5 -3", "-9/2 9/2 2 2 0 0 5/2", "0010000")
	wantSolve(t, limited("-8"), "0 -8 -3 5 -3", "5/2 -5/2 0 0 1 -1 -3/2", "0000100")
	wantSolve(t, limited("10"), "0 10 5 5 -3", "-5/2 5/2 0 0 0 0 5/2", "0000000")
}

func TestSolveGates(t *testing.T) {
	highest := func(a, b api.Q) api.Net {
		return netOf(4, part(api.V, 1, 0, a), part(api.V, 2, 0, b), diode(1, 3), diode(2, 3), part(api.R, 3, 0, "1"))
	}
	wantSolve(t, highest("3", "5"), "0 3 5 5", "0 -5 0 5 5", "00010")
	wantSolve(t, highest("5", "3"), "0 5 3 5", "-5 0 5 0 5", "00100")
	wantSolve(t, highest("5", "5"), "0 5 5 5", "-5 0 5 0 5", "00100")
	wantSolve(t, highest("-5", "-3"), "0 -5 -3 0", "0 0 0 0 0", "00000")
	wantSolve(t, highest("0", "0"), "0 0 0 0", "0 0 0 0 0", "00000")
	lowest := func(a, b api.Q) api.Net {
		return netOf(5, part(api.V, 1, 0, a), part(api.V, 2, 0, b), part(api.V, 4, 0, "9"), part(api.R, 4, 3, "1"), diode(3, 1), diode(3, 2))
	}
	wantSolve(t, lowest("3", "5"), "0 3 5 3 9", "6 0 -6 6 6 0", "000010")
	wantSolve(t, lowest("5", "3"), "0 5 3 3 9", "0 6 -6 6 0 6", "000001")
	wantSolve(t, lowest("9", "10"), "0 9 10 9 9", "0 0 0 0 0 0", "000000")
}

func TestSolveBridges(t *testing.T) {
	bridge := func(volts api.Q) api.Net {
		return netOf(4, part(api.V, 1, 2, volts), diode(1, 3), diode(2, 3), diode(0, 1), diode(0, 2), part(api.R, 3, 0, "5"))
	}
	wantSolve(t, bridge("10"), "0 10 0 10", "-2 2 0 0 2 2", "010010")
	wantSolve(t, bridge("-10"), "0 0 10 10", "2 0 2 2 0 2", "001100")
	// Three batteries, of which the highest and the lowest feed a resistor.
	three := func(a, b, c api.Q) api.Net {
		return netOf(6, part(api.V, 1, 0, a), part(api.V, 2, 0, b), part(api.V, 3, 0, c),
			diode(1, 4), diode(2, 4), diode(3, 4), diode(5, 1), diode(5, 2), diode(5, 3), part(api.R, 4, 5, "7"))
	}
	wantSolve(t, three("3", "1", "-4"), "0 3 1 -4 3 -4", "-1 0 1 1 0 0 0 0 1 1", "0001000010")
	wantSolve(t, three("1", "-4", "3"), "0 1 -4 3 3 -4", "0 1 -1 0 0 1 0 1 0 1", "0000010100")
	wantSolve(t, three("-4", "3", "1"), "0 -4 3 1 3 -4", "1 -1 0 0 1 0 1 0 0 1", "0000101000")
}

func TestSolveCurrentSources(t *testing.T) {
	// What is pushed goes through the diode, or where it can.
	wantSolve(t, netOf(2, part(api.I, 0, 1, "3"), diode(1, 0)), "0 0", "3 3", "01")
	wantNone(t, netOf(2, part(api.I, 0, 1, "3"), diode(0, 1)))
	wantSolve(t, netOf(2, part(api.I, 1, 0, "3"), diode(0, 1)), "0 0", "3 3", "01")
	wantNone(t, netOf(2, part(api.I, 1, 0, "3"), diode(1, 0)))
	wantSolve(t, netOf(2, part(api.I, 0, 1, "3"), diode(1, 0), part(api.R, 1, 0, "2")), "0 0", "3 3 0", "010")
	wantSolve(t, netOf(2, part(api.I, 0, 1, "3"), diode(0, 1), part(api.R, 1, 0, "2")), "0 6", "3 0 3", "000")
	wantSolve(t, netOf(2, part(api.I, 0, 1, "-3"), diode(0, 1), part(api.R, 1, 0, "2")), "0 0", "-3 3 0", "010")
	// Through a resistor into a battery, or past it.
	wantSolve(t, netOf(3, part(api.I, 0, 1, "3"), part(api.R, 1, 0, "4"), diode(1, 2), part(api.V, 2, 0, "8")), "0 8 8", "3 2 1 1", "0010")
	wantSolve(t, netOf(3, part(api.I, 0, 1, "3"), part(api.R, 1, 0, "4"), diode(1, 2), part(api.V, 2, 0, "13")), "0 12 13", "3 3 0 0", "0000")
	// A source that goes from a node to itself drives no diode.
	wantSolve(t, with(fed("6", diode(2, 1)), part(api.I, 2, 2, "9")), "0 6 0", "0 0 0 9", "0000")
}

func TestSolveDiodesFromANodeToItself(t *testing.T) {
	// As joints anything could flow around them: they are gaps.
	wantSolve(t, netOf(1, diode(0, 0)), "0", "0", "0")
	wantSolve(t, netOf(1, slices.Repeat([]api.Part{diode(0, 0)}, api.MaxDiodes)...), "0", "0 0 0 0 0 0", "000000")
	for node := range 3 {
		wantSolve(t, with(fed("6", diode(1, 2)), diode(node, node)), "0 6 6", "-3 3 3 0", "0100")
		wantSolve(t, with(fed("6", diode(2, 1)), diode(node, node)), "0 6 0", "0 0 0 0", "0000")
		wantSolve(t, fed("6", diode(node, node)), "0 6 0", "0 0 0", "000")
	}
	wantNone(t, netOf(2, diode(1, 1)))
	// The bits of others are the next ones.
	wantSolve(t, netOf(3, diode(1, 1), part(api.V, 1, 0, "6"), diode(0, 0), diode(1, 2), diode(2, 2), part(api.R, 2, 0, "2")), "0 6 6", "0 -3 0 3 0 3", "000100")
}

func TestSolveWhereNothingFlowsAndNothingIsAcross(t *testing.T) {
	// A gap over which nothing is.
	wantSolve(t, fed("0", diode(1, 2)), "0 0 0", "0 0 0", "000")
	wantSolve(t, fed("0", diode(2, 1)), "0 0 0", "0 0 0", "000")
	// A bridge in balance.
	wantSolve(t, netOf(4, part(api.V, 3, 0, "5"), part(api.R, 3, 1, "1"), part(api.R, 3, 2, "2"), part(api.R, 1, 0, "2"), part(api.R, 2, 0, "4"), diode(1, 2)),
		"0 10/3 10/3 5", "-5/2 5/3 5/6 5/3 5/6 0", "000000")
	// A joint through which nothing flows: as a gap it would leave its node anywhere.
	wantSolve(t, netOf(2, diode(1, 0)), "0 0", "0", "1")
	wantSolve(t, netOf(2, diode(0, 1)), "0 0", "0", "1")
	wantSolve(t, netOf(3, part(api.V, 1, 0, "6"), part(api.R, 1, 0, "2"), diode(1, 2)), "0 6 6", "-3 3 0", "001")
	wantSolve(t, netOf(4, diode(1, 0), diode(1, 2), diode(3, 2)), "0 0 0 0", "0 0 0", "111")
	wantSolve(t, netOf(2, part(api.I, 1, 0, "0"), diode(1, 0)), "0 0", "0 0", "01")
}

func TestSolveValuesWrittenOtherwise(t *testing.T) {
	wantSolve(t, fed("012/04", diode(1, 2)), "0 3 3", "-3/2 3/2 3/2", "010")
	wantSolve(t, fed("-012/04", diode(2, 1)), "0 -3 -3", "3/2 3/2 -3/2", "010")
	for _, none := range []api.Q{"", "0", "-0", "00", "0/7", "-0/7", "1/0", "x", "1.5", "--1", "+1", "1/-1", "1/", "/1", " 1", "１"} {
		wantSolve(t, fed(none, diode(1, 2)), "0 0 0", "0 0 0", "000")
		wantSolve(t, netOf(2, part(api.I, 0, 1, none), diode(1, 0), part(api.R, 1, 0, "6/4")), "0 0", "0 0 0", "000")
	}
	wantSolve(t, netOf(2, part(api.I, 0, 1, "10/4"), diode(0, 1), part(api.R, 1, 0, "06/4")), "0 15/4", "5/2 0 5/2", "000")
}

// Ten to the power of 50, and neighbours of it.
const (
	noughts = "00000000000000000000000000000000000000000000000000"
	ten50   = "1" + noughts
	less1   = "99999999999999999999999999999999999999999999999999"
	more1   = "100000000000000000000000000000000000000000000000001"
)

// Of long numbers the last digit tells which way it goes.
func TestSolveLongNumbers(t *testing.T) {
	between := func(a, b api.Q) api.Net {
		return netOf(3, part(api.V, 1, 0, a), diode(1, 2), part(api.R, 2, 0, "1"), part(api.I, 0, 2, b))
	}
	wantSolve(t, between(more1, ten50), "0 "+more1+" "+more1, "-1 1 "+more1+" "+ten50, "0100")
	wantSolve(t, between(ten50, ten50), "0 "+ten50+" "+ten50, "0 0 "+ten50+" "+ten50, "0000")
	wantSolve(t, between(less1, ten50), "0 "+less1+" "+ten50, "0 0 "+ten50+" "+ten50, "0000")
	wantSolve(t, between("1/"+less1, "1/"+ten50), "0 1/"+less1+" 1/"+less1, "-1/"+less1+noughts+" 1/"+less1+noughts+" 1/"+less1+" 1/"+ten50, "0100")
	wantSolve(t, between("1/"+more1, "1/"+ten50), "0 1/"+more1+" 1/"+ten50, "0 0 1/"+ten50+" 1/"+ten50, "0000")
	wantSolve(t, between("-"+ten50, "-"+more1), "0 -"+ten50+" -"+ten50, "-1 1 -"+ten50+" -"+more1, "0100")
	wantSolve(t, between("-"+more1, "-"+ten50), "0 -"+more1+" -"+ten50, "0 0 -"+ten50+" -"+ten50, "0000")
	long := api.Q(strings.Repeat("7", api.MaxText))
	wantSolve(t, netOf(3, part(api.V, 1, 0, long), diode(1, 2), part(api.R, 2, 0, long+"/5")), "0 "+string(long)+" "+string(long), "-5 5 5", "010")
}

func TestSolveTellsTheFirstStateThatFits(t *testing.T) {
	// Beside each other either one may lead: the first diode is the lowest bit, wherever it stands.
	wantSolve(t, netOf(3, diode(1, 2), part(api.V, 1, 0, "6"), part(api.R, 2, 0, "2"), diode(1, 2)), "0 6 6", "3 -3 3 0", "1000")
	wantSolve(t, netOf(3, part(api.V, 1, 0, "6"), diode(2, 1), part(api.R, 2, 0, "2"), diode(1, 2), diode(1, 2)), "0 6 6", "-3 0 3 3 0", "00010")
	// Two in a row beside one, all ends being held by resistors: 011, 100, 101 and 110 fit; the least number is told, not the one with fewest joints.
	v, r, load := part(api.V, 1, 0, "6"), part(api.R, 2, 3, "1"), part(api.R, 3, 0, "3")
	wantSolve(t, netOf(4, v, diode(1, 2), diode(2, 3), diode(1, 3), r, load), "0 6 6 6", "-2 2 2 0 0 2", "011000")
	wantSolve(t, netOf(4, v, diode(1, 3), diode(1, 2), diode(2, 3), r, load), "0 6 6 6", "-2 2 0 0 0 2", "010000")
	wantSolve(t, netOf(4, v, diode(1, 2), diode(1, 3), diode(2, 3), r, load), "0 6 6 6", "-2 0 2 0 0 2", "001000")
	// Hanging nodes: either diode may hold it.
	wantSolve(t, netOf(2, diode(0, 1), diode(1, 0)), "0 0", "0 0", "10")
	wantSolve(t, netOf(4, part(api.V, 1, 0, "6"), part(api.V, 2, 0, "6"), diode(1, 3), diode(2, 3)), "0 6 6 6", "0 0 0 0", "0010")
	// They tell different volts there; the first one's are told.
	held := func(first, second api.Part) api.Net {
		return netOf(4, part(api.V, 1, 0, "6"), part(api.V, 2, 0, "-6"), first, second)
	}
	wantSolve(t, held(diode(2, 3), diode(3, 1)), "0 6 -6 -6", "0 0 0 0", "0010")
	wantSolve(t, held(diode(3, 1), diode(2, 3)), "0 6 -6 6", "0 0 0 0", "0010")
}

func TestSolveWhereNoStateFits(t *testing.T) {
	// A battery across a diode that leads; the other way round all is well.
	wantNone(t, netOf(2, part(api.V, 1, 0, "1"), diode(1, 0)))
	wantNone(t, netOf(2, part(api.V, 1, 0, "-1"), diode(0, 1)))
	wantSolve(t, netOf(2, part(api.V, 1, 0, "1"), diode(0, 1)), "0 1", "0 0", "00")
	wantSolve(t, netOf(2, part(api.V, 1, 0, "0"), diode(1, 0)), "0 0", "0 0", "00")
	// Two batteries, the higher one against the lower one.
	wantNone(t, netOf(3, part(api.V, 1, 0, "2"), part(api.V, 2, 0, "1"), diode(1, 2)))
	wantSolve(t, netOf(3, part(api.V, 1, 0, "1"), part(api.V, 2, 0, "2"), diode(1, 2)), "0 1 2", "0 0 0", "000")
	wantSolve(t, netOf(3, part(api.V, 1, 0, "2"), part(api.V, 2, 0, "2"), diode(1, 2)), "0 2 2", "0 0 0", "000")
	// In a row they are no better.
	wantNone(t, netOf(3, part(api.V, 1, 0, "1"), diode(1, 2), diode(2, 0)))
	wantSolve(t, netOf(3, part(api.V, 1, 0, "1"), diode(1, 2), diode(0, 2)), "0 1 1", "0 0 0", "010")
	// A source that pushes into the ends of diodes, however many there are.
	wantNone(t, with(netOf(2, part(api.I, 0, 1, "1")), slices.Repeat([]api.Part{diode(0, 1)}, api.MaxDiodes)...))
	// Nodes that nothing joins to the ground, whatever the diodes are.
	wantNone(t, netOf(3, part(api.V, 1, 0, "1"), diode(0, 1)))
	wantNone(t, netOf(3, diode(1, 2)))
	wantNone(t, netOf(3, diode(1, 2), diode(2, 1), part(api.R, 1, 2, "1")))
	// Batteries that don't agree, or that do so that anything may flow around them.
	wantNone(t, with(fed("6", diode(1, 2)), part(api.V, 1, 0, "5")))
	wantNone(t, with(fed("6", diode(1, 2)), part(api.V, 1, 0, "6")))
}

func TestSolveWhereSomeStatesHaveNoAnswer(t *testing.T) {
	// No answer with a gap: what is pushed has nowhere to flow.
	wantSolve(t, netOf(3, part(api.I, 0, 1, "2"), diode(1, 2), part(api.R, 2, 0, "3")), "0 6 6", "2 2 2", "010")
	// More than one with a gap: node 2 may be anywhere.
	wantSolve(t, netOf(3, part(api.V, 1, 0, "6"), diode(2, 1)), "0 6 6", "0 0", "01")
	// No answer with a joint: batteries that don't agree; more than one: those that do.
	wantSolve(t, netOf(3, part(api.V, 1, 0, "5"), part(api.V, 2, 0, "6"), diode(1, 2), part(api.R, 2, 1, "1")), "0 5 6", "1 -1 0 1", "0000")
	wantSolve(t, netOf(3, part(api.V, 1, 0, "6"), part(api.V, 2, 0, "6"), diode(1, 2), part(api.R, 2, 1, "1")), "0 6 6", "0 0 0 0", "0000")
	// More than one where both are joints, none where both are gaps.
	wantSolve(t, netOf(2, part(api.I, 0, 1, "2"), diode(1, 0), diode(1, 0)), "0 0", "2 2 0", "010")
	wantSolve(t, netOf(2, part(api.I, 0, 1, "2"), diode(0, 1), diode(1, 0)), "0 0", "2 0 2", "001")
	// Only the last of four has one.
	wantSolve(t, netOf(3, part(api.I, 0, 1, "2"), diode(1, 2), diode(2, 0)), "0 0 0", "2 2 2", "011")
}

func TestStates(t *testing.T) {
	n := netOf(2, part(api.R, 1, 0, "1"), diode(1, 0), part(api.V, 1, 0, "1"), diode(1, 0), diode(1, 0))
	var got []string
	var lists [][]bool
	for on := range states(n) {
		text := ""
		for i := range on {
			text += map[bool]string{false: "0", true: "1"}[on[i]]
			on[i] = true // a list is no other state's
		}
		got, lists = append(got, text), append(lists, on)
	}
	if strings.Join(got, " ") != "00000 01000 00010 01010 00001 01001 00011 01011" {
		t.Errorf("%v", got)
	}
	lists[0][0] = false
	if !lists[1][0] {
		t.Errorf("two states share a list")
	}
	// Who has found one asks for no more.
	many := 0
	for range states(n) {
		many++
		if many == 3 {
			break
		}
	}
	if many != 3 {
		t.Errorf("%d states", many)
	}
	for on := range states(netOf(1)) {
		if len(on) > 0 {
			t.Errorf("%v", on)
		}
		many++
	}
	if many != 4 {
		t.Errorf("without diodes there are %d states", many-3)
	}
}
