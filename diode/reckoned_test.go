package diode

import (
	"math/big"
	"math/rand"
	"reflect"
	"slices"
	"testing"

	"voltaic/api"
	"voltaic/direct"
	"voltaic/net"
)

// rat reads a fraction that must be in lowest terms.
func rat(q api.Q) *big.Rat {
	x, ok := new(big.Rat).SetString(string(q))
	if !ok || x.RatString() != string(q) {
		panic("not in lowest terms: " + string(q))
	}
	return x
}

func told(x *big.Rat) api.Q { return api.Q(x.RatString()) }

func tellAll(l []*big.Rat) []api.Q {
	var out []api.Q
	for _, x := range l {
		out = append(out, told(x))
	}
	return out
}

func whole(n int) *big.Rat         { return big.NewRat(int64(n), 1) }
func plus(x, y *big.Rat) *big.Rat  { return new(big.Rat).Add(x, y) }
func minus(x, y *big.Rat) *big.Rat { return new(big.Rat).Sub(x, y) }
func times(x, y *big.Rat) *big.Rat { return new(big.Rat).Mul(x, y) }
func quo(x, y *big.Rat) *big.Rat   { return new(big.Rat).Quo(x, y) }

// reckon solves for the volts of all nodes and the amps of all parts, by the words of the chapters, the ground's flows among the equations; false unless there is just one answer.
func reckon(n api.Net, on []bool) (volts, amps []*big.Rat, only bool) {
	unknowns := n.Nodes + len(n.Parts)
	var rows [][]*big.Rat
	row := func() []*big.Rat {
		var out []*big.Rat
		for range unknowns + 1 {
			out = append(out, new(big.Rat))
		}
		rows = append(rows, out)
		return out
	}
	row()[0].SetInt64(1)
	for node := range n.Nodes {
		r := row()
		for i, p := range n.Parts {
			if p.A == node {
				r[n.Nodes+i] = plus(r[n.Nodes+i], whole(1))
			}
			if p.B == node {
				r[n.Nodes+i] = minus(r[n.Nodes+i], whole(1))
			}
		}
	}
	for i, p := range n.Parts {
		r := row()
		if p.Kind == api.R || p.Kind == api.V || on[i] {
			r[p.A] = plus(r[p.A], whole(1))
			r[p.B] = minus(r[p.B], whole(1))
		} else {
			r[n.Nodes+i] = whole(1)
		}
		switch p.Kind {
		case api.R:
			r[n.Nodes+i] = minus(whole(0), rat(p.Value))
		case api.V, api.I:
			r[unknowns] = rat(p.Value)
		}
	}
	found, only := eliminate(rows, unknowns)
	if !only {
		return nil, nil, false
	}
	return found[:n.Nodes], found[n.Nodes:], true
}

func eliminate(rows [][]*big.Rat, unknowns int) ([]*big.Rat, bool) {
	for c := range unknowns {
		at := slices.IndexFunc(rows[c:], func(r []*big.Rat) bool { return r[c].Sign() != 0 })
		if at < 0 {
			return nil, false
		}
		rows[c], rows[c+at] = rows[c+at], rows[c]
		for i, r := range rows {
			if i == c || r[c].Sign() == 0 {
				continue
			}
			by := quo(r[c], rows[c][c])
			for k := range r {
				if rows[c][k].Sign() != 0 {
					r[k] = minus(r[k], times(by, rows[c][k]))
				}
			}
		}
	}
	for _, r := range rows[unknowns:] {
		if r[unknowns].Sign() != 0 {
			return nil, false
		}
	}
	var out []*big.Rat
	for c := range unknowns {
		out = append(out, quo(rows[c][unknowns], rows[c][c]))
	}
	return out, true
}

// stateOf tells by a number of which each diode takes the next bit, the first one the lowest, which parts are joints.
func stateOf(n api.Net, number int) []bool {
	var out []bool
	for _, p := range n.Parts {
		out = append(out, p.Kind == api.D && number%2 == 1)
		if p.Kind == api.D {
			number /= 2
		}
	}
	return out
}

func countDiodes(n api.Net) int {
	many := 0
	for _, p := range n.Parts {
		if p.Kind == api.D {
			many++
		}
	}
	return many
}

// outcome is what Solve tells, or would tell if no other state were ahead of it.
type outcome struct {
	number int
	answer api.Answer
	on     []bool
}

// fitting has all states that fit, in their order, and how many have just one answer.
func fitting(n api.Net) (out []outcome, answered int) {
	for number := range 1 << countDiodes(n) {
		on := stateOf(n, number)
		volts, amps, only := reckon(n, on)
		if !only {
			continue
		}
		answered++
		fits := true
		for i, p := range n.Parts {
			if on[i] && amps[i].Sign() < 0 || p.Kind == api.D && !on[i] && volts[p.A].Cmp(volts[p.B]) > 0 {
				fits = false
			}
		}
		if fits {
			out = append(out, outcome{number, api.Answer{Volts: tellAll(volts), Amps: tellAll(amps)}, on})
		}
	}
	return out, answered
}

func sameAnswer(a, b api.Answer) bool {
	return slices.Equal(a.Volts, b.Volts) && slices.Equal(a.Amps, b.Amps)
}

const fewestSeen = 100

// someNet draws a net of R, V, I and up to so many diodes with which nothing is wrong; its values are few, so that often nothing flows or is across, and several states fit.
func someNet(r *rand.Rand, most int) api.Net {
	n := api.Net{Nodes: 1 + r.Intn(6)}
	add := func(kind int, value *big.Rat) {
		p := part(kind, r.Intn(n.Nodes), r.Intn(n.Nodes), told(value))
		if p.A == p.B && r.Intn(4) > 0 { // a part from a node to itself is seldom of use
			p.B = (p.A + 1) % n.Nodes
		}
		if kind == api.D {
			p.Value = ""
		}
		n.Parts = append(n.Parts, p)
	}
	for range r.Intn(n.Nodes + 2) {
		add(api.R, big.NewRat(int64(1+r.Intn(3)), int64(1+r.Intn(2))))
	}
	for range 1 + r.Intn(2) {
		add([]int{api.V, api.I}[r.Intn(2)], big.NewRat(int64(r.Intn(7)-3), int64(1+r.Intn(2))))
	}
	for range r.Intn(most + 1) {
		add(api.D, whole(0))
	}
	r.Shuffle(len(n.Parts), func(i, k int) { n.Parts[i], n.Parts[k] = n.Parts[k], n.Parts[i] })
	return n
}

func TestSolveAgainstAnotherReckoner(t *testing.T) {
	r := rand.New(rand.NewSource(1))
	none, first, later, several, last, stuck := 0, 0, 0, 0, 0, 0
	for range 2500 {
		n := someNet(r, 4)
		fits, answered := fitting(n)
		if len(fits) == 0 {
			wantNone(t, n)
			none++
			continue
		}
		a, on, f := Solve(n)
		if !sameAnswer(a, fits[0].answer) || !slices.Equal(on, fits[0].on) || f != (api.Fault{}) {
			t.Fatalf("Solve(%v): %v, %v, %v, want %v", n, a, on, f, fits[0])
		}
		diodes := countDiodes(n)
		switch fits[0].number {
		case 0:
			first++
		case 1<<diodes - 1:
			last++
		default:
			later++
		}
		if len(fits) > 1 {
			several++
		}
		if answered < 1<<diodes {
			stuck++
		}
	}
	for i, many := range []int{none, first, later, several, last, stuck} {
		if many < fewestSeen {
			t.Errorf("of the kind %d there are %d nets only", i, many)
		}
	}
}

// With as many diodes as may be.
func TestSolveManyDiodesAgainstAnotherReckoner(t *testing.T) {
	r := rand.New(rand.NewSource(2))
	numbers := map[int]int{}
	for range 60 {
		n := someNet(r, 0)
		for range api.MaxDiodes {
			n.Parts = slices.Insert(n.Parts, r.Intn(len(n.Parts)+1), diode(r.Intn(n.Nodes), r.Intn(n.Nodes)))
		}
		fits, _ := fitting(n)
		if len(fits) == 0 {
			wantNone(t, n)
			continue
		}
		a, on, f := Solve(n)
		if !sameAnswer(a, fits[0].answer) || !slices.Equal(on, fits[0].on) || f != (api.Fault{}) {
			t.Fatalf("Solve(%v): %v, %v, %v, want %v", n, a, on, f, fits[0])
		}
		numbers[fits[0].number]++
	}
	if len(numbers) < 10 {
		t.Errorf("only these states are told: %v", numbers)
	}
}

// eachSolved goes through nets of which a state fits.
func eachSolved(t *testing.T, seed int64, look func(r *rand.Rand, n api.Net, a api.Answer, on []bool)) {
	t.Helper()
	r := rand.New(rand.NewSource(seed))
	seen := 0
	for range 1600 {
		n := someNet(r, 5)
		if a, on, f := Solve(n); f.Code == api.OK {
			look(r, n, a, on)
			seen++
		}
	}
	if seen < fewestSeen {
		t.Errorf("only %d nets have an answer", seen)
	}
}

// laid has batteries of 0 V for joints, and current sources of 0 A for gaps.
func laid(n api.Net, on []bool) api.Net {
	out := netOf(n.Nodes, slices.Clone(n.Parts)...)
	for i, p := range out.Parts {
		switch {
		case on[i]:
			out.Parts[i] = part(api.V, p.A, p.B, "0")
		case p.Kind == api.D:
			out.Parts[i] = part(api.I, p.A, p.B, "0")
		}
	}
	return out
}

func above(a api.Answer, p api.Part) *big.Rat { return minus(rat(a.Volts[p.A]), rat(a.Volts[p.B])) }

// The answer is chapter 3's of its state, no part but a diode is a joint, and of a diode either nothing is across or nothing flows, neither the wrong way.
func TestSolveIsChapter3sAnswer(t *testing.T) {
	leads, stops := 0, 0
	eachSolved(t, 3, func(_ *rand.Rand, n api.Net, a api.Answer, on []bool) {
		want, f := direct.Solve(laid(n, on))
		if f != (api.Fault{}) || !sameAnswer(a, want) {
			t.Fatalf("Solve(%v): %v, %v, but chapter 3 says %v, %v", n, a, on, want, f)
		}
		for i, p := range n.Parts {
			if p.Kind != api.D {
				if on[i] {
					t.Fatalf("Solve(%v): %v", n, on)
				}
				continue
			}
			across, flows := above(a, p), rat(a.Amps[i])
			if across.Sign() > 0 || flows.Sign() < 0 || on[i] && across.Sign() != 0 || !on[i] && flows.Sign() != 0 {
				t.Fatalf("Solve(%v): %v, %v: of the diode %d", n, a, on, i)
			}
			leads, stops = leads+flows.Sign(), stops-across.Sign()
		}
	})
	if leads < fewestSeen || stops < fewestSeen {
		t.Errorf("something flows through %d diodes, something is across %d", leads, stops)
	}
}

// Without diodes it is chapter 3's, too, but whatever that says is ErrNone.
func TestWithoutDiodesAllIsAsInChapter3(t *testing.T) {
	r := rand.New(rand.NewSource(4))
	seen := map[api.Errno]int{}
	for range 2000 {
		n := someNet(r, 0)
		want, f := direct.Solve(n)
		seen[f.Code]++
		if f.Code != api.OK {
			wantNone(t, n)
			continue
		}
		a, on, g := Solve(n)
		if !sameAnswer(a, want) || slices.Contains(on, true) || len(on) != len(n.Parts) || g != (api.Fault{}) {
			t.Fatalf("Solve(%v): %v, %v, %v, want %v", n, a, on, g, want)
		}
	}
	for _, code := range []api.Errno{api.OK, api.ErrNone, api.ErrFree} {
		if seen[code] < fewestSeen {
			t.Errorf("%d is told %d times only", code, seen[code])
		}
	}
}

// inResistors are what flows through the resistors.
func inResistors(n api.Net, a api.Answer) []api.Q {
	var out []api.Q
	for i, p := range n.Parts {
		if p.Kind == api.R {
			out = append(out, a.Amps[i])
		}
	}
	return out
}

// P13.3

func TestAllStatesThatFitTellTheSameInResistors(t *testing.T) {
	several, elsewhere := 0, 0
	eachSolved(t, 5, func(_ *rand.Rand, n api.Net, a api.Answer, on []bool) {
		want := inResistors(n, a)
		flows := slices.ContainsFunc(want, func(q api.Q) bool { return q != "0" })
		for number := range 1 << countDiodes(n) {
			other := stateOf(n, number)
			b, f := direct.Solve(laid(n, other))
			if f.Code != api.OK || slices.Equal(on, other) || !allowed(n, b) {
				continue
			}
			if !slices.Equal(inResistors(n, b), want) {
				t.Fatalf("%v: in the state %v %v, in %v %v", n, on, a, other, b)
			}
			if flows {
				several++
			}
			if !slices.Equal(a.Amps, b.Amps) {
				elsewhere++
			}
		}
	})
	if several < fewestSeen || elsewhere < fewestSeen {
		t.Errorf("%d other states fit where something flows through resistors, %d tell other flows elsewhere", several, elsewhere)
	}
}

// allowed: through no diode something flows backward, and over none A is above B.
func allowed(n api.Net, a api.Answer) bool {
	for i, p := range n.Parts {
		if p.Kind == api.D && (rat(a.Amps[i]).Sign() < 0 || above(a, p).Sign() > 0) {
			return false
		}
	}
	return true
}

// So in whatever order the parts stand, an answer is found, and the same flows through each resistor.
func TestTheOrderOfPartsChangesNothingInResistors(t *testing.T) {
	others := 0
	eachSolved(t, 6, func(r *rand.Rand, n api.Net, a api.Answer, on []bool) {
		order := r.Perm(len(n.Parts))
		m := api.Net{Nodes: n.Nodes}
		for _, i := range order {
			m.Parts = append(m.Parts, n.Parts[i])
		}
		b, joints, f := Solve(m)
		if f != (api.Fault{}) {
			t.Fatalf("Solve(%v): %v; as %v: %v", n, a, m, f)
		}
		for k, i := range order {
			if n.Parts[i].Kind == api.R && a.Amps[i] != b.Amps[k] {
				t.Fatalf("Solve(%v): %v; as %v: %v", n, a, m, b)
			}
			if joints[k] != on[i] {
				others++
			}
		}
	})
	if others < fewestSeen {
		t.Errorf("only %d diodes are told otherwise", others)
	}
}

// All sources and all diodes turned round: the same states fit, and all is turned round.
func TestTurnedRound(t *testing.T) {
	opposite := func(q api.Q) api.Q { return told(minus(whole(0), rat(q))) }
	eachSolved(t, 7, func(_ *rand.Rand, n api.Net, a api.Answer, on []bool) {
		m := netOf(n.Nodes, slices.Clone(n.Parts)...)
		for i, p := range m.Parts {
			switch p.Kind {
			case api.V, api.I:
				m.Parts[i].Value = opposite(p.Value)
			case api.D:
				m.Parts[i] = diode(p.B, p.A)
			}
		}
		b, joints, f := Solve(m)
		for i, q := range b.Volts {
			b.Volts[i] = opposite(q)
		}
		for i, q := range b.Amps {
			if m.Parts[i].Kind != api.D {
				b.Amps[i] = opposite(q)
			}
		}
		if !sameAnswer(a, b) || !slices.Equal(on, joints) || f != (api.Fault{}) {
			t.Fatalf("Solve(%v): %v, %v; turned round: %v, %v, %v", n, a, on, b, joints, f)
		}
	})
}

// With all sources so many times as great the same states fit, and all is so many times as great.
func TestGreaterSources(t *testing.T) {
	by, _ := new(big.Rat).SetString(ten50 + "/" + less1)
	eachSolved(t, 8, func(_ *rand.Rand, n api.Net, a api.Answer, on []bool) {
		m := netOf(n.Nodes, slices.Clone(n.Parts)...)
		for i, p := range m.Parts {
			if p.Kind == api.V || p.Kind == api.I {
				m.Parts[i].Value = told(times(by, rat(p.Value)))
			}
		}
		b, joints, f := Solve(m)
		for _, l := range [][]api.Q{b.Volts, b.Amps} {
			for i, q := range l {
				l[i] = told(quo(rat(q), by))
			}
		}
		if !sameAnswer(a, b) || !slices.Equal(on, joints) || f != (api.Fault{}) {
			t.Fatalf("Solve(%v): %v, %v; with greater sources: %v, %v, %v", n, a, on, b, joints, f)
		}
	})
}

// Fractions of many digits in all places.
func TestSolveLongFractionsAgainstAnotherReckoner(t *testing.T) {
	r := rand.New(rand.NewSource(9))
	most := new(big.Int).Exp(big.NewInt(10), big.NewInt(40), nil)
	long := func() *big.Int { return new(big.Int).Add(new(big.Int).Rand(r, most), big.NewInt(1)) }
	seen := 0
	for range 60 {
		n := someNet(r, 3)
		for i, p := range n.Parts {
			if p.Kind == api.D {
				continue
			}
			value := new(big.Rat).SetFrac(long(), long())
			if p.Kind != api.R && r.Intn(2) == 0 {
				value.Neg(value)
			}
			n.Parts[i].Value = told(value)
		}
		fits, _ := fitting(n)
		if len(fits) == 0 {
			wantNone(t, n)
			continue
		}
		seen++
		a, on, f := Solve(n)
		if !sameAnswer(a, fits[0].answer) || !slices.Equal(on, fits[0].on) || f != (api.Fault{}) {
			t.Fatalf("Solve(%v): %v, %v, %v, want %v", n, a, on, f, fits[0])
		}
	}
	if seen < 20 {
		t.Errorf("only %d nets have an answer", seen)
	}
}

// P1, P2, P3

// spoil writes over a list and the spare room behind it.
func spoil[T any](l []T, by T) {
	l = l[:cap(l)]
	for i := range l {
		l[i] = by
	}
}

// What is handed in stays, and the spare room behind it, too; what is answered is no one else's.
func TestNothingIsShared(t *testing.T) {
	eachSolved(t, 10, func(r *rand.Rand, n api.Net, want api.Answer, on []bool) {
		room := append(slices.Clone(n.Parts), part(77, 7, 7, "7"), part(78, 8, 8, "8"))
		before := slices.Clone(room)
		n.Parts = room[:len(n.Parts)]
		a, joints, _ := Solve(n)
		spoil(a.Volts, "spoilt")
		if !slices.Equal(a.Amps, want.Amps) {
			t.Fatalf("%v: volts and amps share memory", n)
		}
		spoil(a.Amps, "spoilt")
		spoil(joints, true)
		Check(n)
		a, joints, _ = Solve(n)
		if !sameAnswer(a, want) || !slices.Equal(joints, on) {
			t.Fatalf("%v: %v, %v, then %v, %v", n, want, on, a, joints)
		}
		if !slices.Equal(room, before) {
			t.Fatalf("%v was changed to %v", before, room)
		}
	})
}

// anyNet draws what may be a net or not.
func anyNet(r *rand.Rand) api.Net {
	texts := append(words("0 1 -1 2 1/2 -3/4 x 1/0 -0 00 007/014 1.5 - / -/ 1/ /1 1//2 １ "+ten50), "", "", "1 2", "\x00", "\xff")
	some := func() api.Q { return texts[r.Intn(len(texts))] }
	n := api.Net{Nodes: 1 + r.Intn(3)}
	if r.Intn(9) == 0 {
		n.Nodes = r.Intn(api.MaxNodes+4) - 2
	}
	for range r.Intn(12) {
		p := part([]int{api.R, api.V, api.I, api.D, api.D}[r.Intn(5)], r.Intn(2), r.Intn(3), some())
		if p.Kind == api.R && r.Intn(9) > 0 {
			p.Value = "007/014"
		}
		if p.Kind == api.D && r.Intn(9) > 0 {
			p.Value = ""
		}
		if r.Intn(20) == 0 {
			p = api.Part{Kind: r.Intn(11) - 1, A: r.Intn(5) - 1, B: r.Intn(5), C: r.Intn(2), D: r.Intn(2), Value: some()}
		}
		n.Parts = append(n.Parts, p)
	}
	return n
}

// wrongWith tells by the words of P13.1 what is wrong with a net.
func wrongWith(n api.Net) api.Fault {
	if f := net.Check(n); f.Code != api.OK {
		return f
	}
	for i, p := range n.Parts {
		if slices.Contains([]int{api.L, api.C, api.E, api.G}, p.Kind) {
			return api.Fault{Code: api.ErrKind, At: i}
		}
		if p.Kind == api.D && countDiodes(netOf(n.Nodes, n.Parts[:i]...)) == api.MaxDiodes {
			return api.Fault{Code: api.ErrMany, At: i}
		}
	}
	return api.Fault{}
}

// Any nets: a call ends, and tells either a fault and nothing else, or a whole answer, twice the same.
func TestAnyNets(t *testing.T) {
	r := rand.New(rand.NewSource(11))
	seen := map[api.Errno]int{}
	for range 6000 {
		n := anyNet(r)
		wrong := wrongWith(n)
		if f := Check(n); f != wrong {
			t.Fatalf("Check(%v): %v, want %v", n, f, wrong)
		}
		a, on, f := Solve(n)
		seen[f.Code]++
		if b, again, g := Solve(n); !reflect.DeepEqual([]any{a, on, f}, []any{b, again, g}) {
			t.Fatalf("Solve(%v): %v, %v, %v, then %v, %v, %v", n, a, on, f, b, again, g)
		}
		switch {
		case wrong.Code != api.OK:
			wantNotSolved(t, n, wrong)
		case f.Code != api.OK:
			wantNone(t, n)
		case len(a.Volts) != n.Nodes || len(a.Amps) != len(n.Parts) || len(on) != len(n.Parts) || !allowed(n, a):
			t.Fatalf("Solve(%v): %v, %v", n, a, on)
		}
	}
	for _, code := range []api.Errno{api.OK, api.ErrMany, api.ErrKind, api.ErrNode, api.ErrValue, api.ErrForm, api.ErrNone} {
		if seen[code] < fewestSeen/2 {
			t.Errorf("%d is told %d times only", code, seen[code])
		}
	}
}
