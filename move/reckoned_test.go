package move

import (
	"math/big"
	"math/rand"
	"slices"
	"testing"

	"voltaic/api"
	"voltaic/direct"
)

// rat reads a fraction that must be in lowest terms.
func rat(q api.Q) *big.Rat {
	x, ok := new(big.Rat).SetString(string(q))
	if !ok || x.RatString() != string(q) {
		panic("not in lowest terms: " + string(q))
	}
	return x
}

func rats(l []api.Q) []*big.Rat {
	var out []*big.Rat
	for _, q := range l {
		out = append(out, rat(q))
	}
	return out
}

func told(x *big.Rat) api.Q { return api.Q(x.RatString()) }

func tellAll(l []*big.Rat) []api.Q {
	var out []api.Q
	for _, x := range l {
		out = append(out, told(x))
	}
	return out
}

func whole(n int) *big.Rat         { return big.NewRat(int64(n), 1) }
func plus(x, y *big.Rat) *big.Rat  { return new(big.Rat).Add(x, y) }
func minus(x, y *big.Rat) *big.Rat { return new(big.Rat).Sub(x, y) }
func times(x, y *big.Rat) *big.Rat { return new(big.Rat).Mul(x, y) }
func quo(x, y *big.Rat) *big.Rat   { return new(big.Rat).Quo(x, y) }
func half(x *big.Rat) *big.Rat     { return quo(x, whole(2)) }

// equation is what a part's across, its flow and what leads it are multiplied by, and what comes of it.
type equation struct{ across, flow, led, sum *big.Rat }

// storing says what holds of the part i, which is L or C, whose value this is.
type storing func(i, kind int, value *big.Rat) equation

// equationOf is what chapter 3 says of a part, and storing of L and C.
func equationOf(i int, p api.Part, s storing) equation {
	value, none, one := rat(p.Value), whole(0), whole(1)
	less := minus(none, value)
	switch p.Kind {
	case api.R:
		return equation{one, less, none, none}
	case api.V:
		return equation{one, none, none, value}
	case api.I:
		return equation{none, one, none, value}
	case api.E:
		return equation{one, none, less, none}
	case api.G:
		return equation{none, one, less, none}
	}
	return s(i, p.Kind, value)
}

// reckon solves for the volts of all nodes and the amps of all parts, the ground's flows among the equations, by rows that are made short one by one.
func reckon(n api.Net, s storing) (across, amps []*big.Rat, code api.Errno) {
	unknowns := n.Nodes + len(n.Parts)
	var rows [][]*big.Rat
	row := func() []*big.Rat {
		var out []*big.Rat
		for range unknowns + 1 {
			out = append(out, new(big.Rat))
		}
		rows = append(rows, out)
		return out
	}
	row()[0].SetInt64(1)
	for node := range n.Nodes {
		r := row()
		for i, p := range n.Parts {
			if p.A == node {
				r[n.Nodes+i] = plus(r[n.Nodes+i], whole(1))
			}
			if p.B == node {
				r[n.Nodes+i] = minus(r[n.Nodes+i], whole(1))
			}
		}
	}
	for i, p := range n.Parts {
		r, e := row(), equationOf(i, p, s)
		r[p.A] = plus(r[p.A], e.across)
		r[p.B] = minus(r[p.B], e.across)
		r[p.C] = plus(r[p.C], e.led)
		r[p.D] = minus(r[p.D], e.led)
		r[n.Nodes+i], r[unknowns] = e.flow, e.sum
	}
	found, code := eliminate(rows, unknowns)
	if code != api.OK {
		return nil, nil, code
	}
	for _, p := range n.Parts {
		across = append(across, minus(found[p.A], found[p.B]))
	}
	return across, found[n.Nodes:], api.OK
}

func eliminate(rows [][]*big.Rat, unknowns int) ([]*big.Rat, api.Errno) {
	done := 0
	for c := range unknowns {
		at := slices.IndexFunc(rows[done:], func(r []*big.Rat) bool { return r[c].Sign() != 0 })
		if at < 0 {
			continue
		}
		rows[done], rows[done+at] = rows[done+at], rows[done]
		for i, r := range rows {
			if i == done || r[c].Sign() == 0 {
				continue
			}
			by := quo(r[c], rows[done][c])
			for k := range r {
				r[k] = minus(r[k], times(by, rows[done][k]))
			}
		}
		done++
	}
	for _, r := range rows[done:] {
		if r[unknowns].Sign() != 0 {
			return nil, api.ErrNone
		}
	}
	if done < unknowns {
		return nil, api.ErrFree
	}
	var out []*big.Rat
	for c := range unknowns {
		out = append(out, quo(rows[c][unknowns], rows[c][c]))
	}
	return out, api.OK
}

// beginning is what P12.1 says of L and C.
func beginning(n api.Net, x []*big.Rat) storing {
	return func(i, kind int, value *big.Rat) equation {
		entry := 0
		for _, p := range n.Parts[:i] {
			if p.Kind == api.L || p.Kind == api.C {
				entry++
			}
		}
		if kind == api.L {
			return equation{whole(0), whole(1), whole(0), x[entry]}
		}
		return equation{whole(1), whole(0), whole(0), x[entry]}
	}
}

// going is what P12.2 says of L and C.
func going(across, amps []*big.Rat, h *big.Rat, way int) storing {
	return func(i, kind int, value *big.Rat) equation {
		less := minus(whole(0), value)
		switch {
		case kind == api.C && way == api.Backward: // h flow = value (across - was)
			return equation{less, h, whole(0), times(less, across[i])}
		case kind == api.C: // h (flow + flowed)/2 = value (across - was)
			return equation{less, half(h), whole(0), minus(times(less, across[i]), times(half(h), amps[i]))}
		case way == api.Backward: // h across = value (flow - flowed)
			return equation{h, less, whole(0), times(less, amps[i])}
		}
		return equation{half(h), less, whole(0), minus(times(less, amps[i]), times(half(h), across[i]))}
	}
}

const (
	allKinds   = "RLCVIEG"
	fewestSeen = 100
)

func kindOf(letter byte) int { return slices.Index([]byte(".RLCVIEG"), letter) }

func someFraction(r *rand.Rand) *big.Rat {
	return big.NewRat(int64(r.Intn(13)-6), int64(1+r.Intn(4)))
}

func someAbove(r *rand.Rand) *big.Rat { return big.NewRat(int64(1+r.Intn(4)), int64(1+r.Intn(3))) }

// someNet draws a net of such kinds with which nothing is wrong; its values are few, so that parts often cancel each other.
func someNet(r *rand.Rand, kinds string) api.Net {
	n := api.Net{Nodes: 1 + r.Intn(5)}
	for range r.Intn(11) {
		p := part(api.R, r.Intn(n.Nodes), r.Intn(n.Nodes), told(someAbove(r)))
		if r.Intn(4) > 0 {
			p.Kind = kindOf(kinds[r.Intn(len(kinds))])
		}
		if p.Kind >= api.V && r.Intn(2) == 0 {
			p.Value = told(minus(rat(p.Value), whole(2)))
		}
		if p.Kind >= api.E {
			p.C, p.D = r.Intn(n.Nodes), r.Intn(n.Nodes)
		}
		n.Parts = append(n.Parts, p)
	}
	return n
}

// joinedNet draws one that is likelier to have an answer: resistors join all nodes.
func joinedNet(r *rand.Rand, kinds string) api.Net {
	n := someNet(r, kinds)
	for node := 1; node < n.Nodes; node++ {
		n.Parts = append(n.Parts, part(api.R, node, r.Intn(node), told(someAbove(r))))
	}
	return n
}

// someX draws an x for a net.
func someX(r *rand.Rand, n api.Net) []*big.Rat {
	var out []*big.Rat
	for _, p := range n.Parts {
		if p.Kind == api.L || p.Kind == api.C {
			out = append(out, someFraction(r))
		}
	}
	return out
}

func stateTold(across, amps []*big.Rat) api.State {
	return api.State{Across: tellAll(across), Amps: tellAll(amps)}
}

func wantAllCodes(t *testing.T, seen map[api.Errno]int) {
	t.Helper()
	for _, code := range []api.Errno{api.OK, api.ErrNone, api.ErrFree} {
		if seen[code] < fewestSeen {
			t.Errorf("%d is told %d times only", code, seen[code])
		}
	}
}

func TestBeginAgainstAnotherReckoner(t *testing.T) {
	r := rand.New(rand.NewSource(1))
	seen := map[api.Errno]int{}
	for i := range 3000 {
		n := someNet(r, allKinds)
		if i%2 == 0 {
			n = joinedNet(r, allKinds)
		}
		x := someX(r, n)
		across, amps, code := reckon(n, beginning(n, x))
		got, f := Begin(n, tellAll(x))
		if f != (api.Fault{Code: code}) || !sameState(got, stateTold(across, amps)) {
			t.Fatalf("Begin(%v, %v): %v, %v, want %v, %d", n, x, got, f, stateTold(across, amps), code)
		}
		seen[code]++
	}
	wantAllCodes(t, seen)
}

// From any state, those that could not be among them.
func TestStepAgainstAnotherReckoner(t *testing.T) {
	r := rand.New(rand.NewSource(2))
	for _, way := range bothWays() {
		seen := map[api.Errno]int{}
		for range 2000 {
			n, h := someNet(r, allKinds), someAbove(r)
			var was, flowed []*big.Rat
			for range n.Parts {
				was, flowed = append(was, someFraction(r)), append(flowed, someFraction(r))
			}
			across, amps, code := reckon(n, going(was, flowed, h, way))
			got, f := Step(n, stateTold(was, flowed), told(h), way)
			if f != (api.Fault{Code: code}) || !sameState(got, stateTold(across, amps)) {
				t.Fatalf("Step(%v, %v, %v, %v, %d): %v, %v, want %v, %d", n, was, flowed, h, way, got, f, stateTold(across, amps), code)
			}
			seen[code]++
		}
		wantAllCodes(t, seen)
	}
}

// Nets in which what is led often takes away what a step brings.
func TestStepWhereMuchCancels(t *testing.T) {
	r := rand.New(rand.NewSource(3))
	for _, way := range bothWays() {
		seen := map[api.Errno]int{}
		for range 4000 {
			n := netOf(2, part(api.C, 1, 0, "1"), led(api.G, 1, 0, 1, 0, []api.Q{"-1", "-2"}[r.Intn(2)]), part([]int{api.I, api.L}[r.Intn(2)], 1, 0, "1"))
			h := []api.Q{"1", "1/2", "2"}[r.Intn(3)]
			var was, flowed []*big.Rat
			for range n.Parts {
				was, flowed = append(was, whole(r.Intn(5)-2)), append(flowed, whole(r.Intn(5)-2))
			}
			across, amps, code := reckon(n, going(was, flowed, rat(h), way))
			got, f := Step(n, stateTold(was, flowed), h, way)
			if f != (api.Fault{Code: code}) || !sameState(got, stateTold(across, amps)) {
				t.Fatalf("Step(%v, %v, %v, %s, %d): %v, %v, want %v, %d", n, was, flowed, h, way, got, f, stateTold(across, amps), code)
			}
			seen[code]++
		}
		wantAllCodes(t, seen)
	}
}

// eachPlay goes through plays that have all of their states.
func eachPlay(t *testing.T, seed int64, kinds string, way, steps int, look func(n api.Net, x []api.Q, h api.Q, l []api.State)) {
	t.Helper()
	r := rand.New(rand.NewSource(seed))
	seen := 0
	for range 1200 {
		n, h := joinedNet(r, kinds), told(someAbove(r))
		x := tellAll(someX(r, n))
		if l, f := Play(n, x, h, way, steps); f.Code == api.OK {
			look(n, x, h, l)
			seen++
		}
	}
	if seen < fewestSeen {
		t.Errorf("only %d plays of %s have all of their states", seen, kinds)
	}
}

func TestPlayIsBeginAndStepAfterStep(t *testing.T) {
	for _, way := range bothWays() {
		eachPlay(t, 4, allKinds, way, 4, func(n api.Net, x []api.Q, h api.Q, l []api.State) {
			s, f := Begin(n, x)
			for i := range 5 {
				if f != (api.Fault{}) || len(l) != 5 || !sameState(s, l[i]) {
					t.Fatalf("Play(%v, %v, %s, %d, 4): %v, but the state %d is %v, %v", n, x, h, way, l, i, s, f)
				}
				if short, f := Play(n, x, h, way, i); f != (api.Fault{}) || !slices.EqualFunc(short, l[:i+1], sameState) {
					t.Fatalf("Play(%v, %v, %s, %d, %d): %v, %v, want the beginning of %v", n, x, h, way, i, short, f, l)
				}
				s, f = Step(n, s, h, way)
			}
		})
	}
}

// several has several L and C, and sources of each kind.
func several() api.Net {
	return netOf(5,
		part(api.V, 1, 0, "3"), part(api.R, 1, 2, "2/3"), part(api.C, 2, 0, "1/2"), part(api.L, 2, 3, "3"), part(api.C, 3, 0, "2"),
		part(api.R, 3, 0, "5"), part(api.I, 0, 3, "-1/4"), led(api.G, 0, 3, 2, 1, "1/3"), part(api.L, 3, 4, "1"), led(api.E, 4, 0, 2, 3, "1/2"),
	)
}

func TestAsManyStepsAsMayBeAgainstAnotherReckoner(t *testing.T) {
	r := rand.New(rand.NewSource(10))
	for _, n := range []api.Net{drained(), slowed(), ringing(), calmed(), pushed(), several()} {
		for _, way := range bothWays() {
			x, h := someX(r, n), someAbove(r)
			l, f := Play(n, tellAll(x), told(h), way, api.MaxSteps)
			if f != (api.Fault{}) || len(l) != api.MaxSteps+1 {
				t.Fatalf("Play(%v, %v, %v, %d): %v, %d states", n, x, h, way, f, len(l))
			}
			across, amps, _ := reckon(n, beginning(n, x))
			for i, s := range l {
				if !sameState(s, stateTold(across, amps)) {
					t.Fatalf("Play(%v, %v, %v, %d): the state %d is %v, want %v", n, x, h, way, i, s, stateTold(across, amps))
				}
				across, amps, _ = reckon(n, going(across, amps, h, way))
			}
		}
	}
}

// A net without L and C is as chapter 3 has it, at the beginning and behind each step.
func TestWithoutStoresAllIsAsInChapter3(t *testing.T) {
	r := rand.New(rand.NewSource(5))
	seen := map[api.Errno]int{}
	for range 1500 {
		n := someNet(r, "RVIEG")
		want, f := direct.Solve(n)
		s, g := Begin(n, nil)
		next, k := Step(n, api.State{Across: make([]api.Q, len(n.Parts)), Amps: make([]api.Q, len(n.Parts))}, "1/3", 1+r.Intn(2))
		if f != g || f != k || !slices.Equal(s.Amps, want.Amps) || !sameState(s, next) {
			t.Fatalf("%v: %v, %v, then %v, %v, want %v, %v", n, s, g, next, k, want, f)
		}
		for i, q := range s.Across {
			if p := n.Parts[i]; rat(q).Cmp(minus(rat(want.Volts[p.A]), rat(want.Volts[p.B]))) != 0 {
				t.Fatalf("%v: %v, want %v", n, s, want)
			}
		}
		seen[f.Code]++
	}
	wantAllCodes(t, seen)
}

func TestEnergyAgainstAnotherReckoner(t *testing.T) {
	r := rand.New(rand.NewSource(6))
	for range 1000 {
		n := someNet(r, allKinds)
		var across, amps []*big.Rat
		sum := whole(0)
		for i, p := range n.Parts {
			across, amps = append(across, someFraction(r)), append(amps, someFraction(r))
			switch p.Kind {
			case api.L:
				sum = plus(sum, half(times(rat(p.Value), times(amps[i], amps[i]))))
			case api.C:
				sum = plus(sum, half(times(rat(p.Value), times(across[i], across[i]))))
			}
		}
		if got, f := Energy(n, stateTold(across, amps)); got != told(sum) || f != (api.Fault{}) {
			t.Fatalf("Energy(%v, %v, %v): %s, %v, want %v", n, across, amps, got, f, sum)
		}
	}
}

func energyOf(t *testing.T, n api.Net, s api.State) *big.Rat {
	t.Helper()
	q, f := Energy(n, s)
	if f != (api.Fault{}) {
		t.Fatalf("Energy(%v, %v): %v", n, s, f)
	}
	return rat(q)
}

// given is what all parts but L and C give to them within h seconds, if what is across, and what flows, is this.
func given(n api.Net, h api.Q, across, amps []*big.Rat) *big.Rat {
	sum := whole(0)
	for i, p := range n.Parts {
		if p.Kind != api.L && p.Kind != api.C {
			sum = minus(sum, times(across[i], amps[i]))
		}
	}
	return times(rat(h), sum)
}

// halves are half of the sums of two lists.
func halves(a, b []api.Q) []*big.Rat {
	var out []*big.Rat
	for i := range a {
		out = append(out, half(plus(rat(a[i]), rat(b[i]))))
	}
	return out
}

// P12.4: by trapezoids.
func TestEnergyGrowsByWhatTheOthersGive(t *testing.T) {
	up, down := 0, 0
	eachPlay(t, 7, allKinds, api.Trapezoid, 3, func(n api.Net, x []api.Q, h api.Q, l []api.State) {
		for i := range 3 {
			grows := minus(energyOf(t, n, l[i+1]), energyOf(t, n, l[i]))
			want := given(n, h, halves(l[i].Across, l[i+1].Across), halves(l[i].Amps, l[i+1].Amps))
			if grows.Cmp(want) != 0 {
				t.Fatalf("Play(%v, %v, %s): from %v to %v the energy grows by %v, want %v", n, x, h, l[i], l[i+1], grows, want)
			}
			up, down = up+max(0, grows.Sign()), down+max(0, -grows.Sign())
		}
	})
	if up < fewestSeen || down < fewestSeen {
		t.Errorf("it grows %d times only, or falls %d times only", up, down)
	}
}

// P12.4: backward; what is less than that is lost by the step itself.
func TestEnergyGrowsByNoMoreThanTheOthersGive(t *testing.T) {
	less, as := 0, 0
	eachPlay(t, 8, allKinds, api.Backward, 3, func(n api.Net, x []api.Q, h api.Q, l []api.State) {
		for i := range 3 {
			grows := minus(energyOf(t, n, l[i+1]), energyOf(t, n, l[i]))
			most := given(n, h, rats(l[i+1].Across), rats(l[i+1].Amps))
			switch grows.Cmp(most) {
			case 1:
				t.Fatalf("Play(%v, %v, %s): from %v to %v the energy grows by %v, want at most %v", n, x, h, l[i], l[i+1], grows, most)
			case 0:
				as++
			case -1:
				less++
			}
		}
	})
	if less < fewestSeen || as == 0 {
		t.Errorf("it grows by less %d times, by as much %d times", less, as)
	}
}

// P12.4: without sources it never grows; of L and C alone, by trapezoids, it stays.
func TestEnergyNeverGrowsByItself(t *testing.T) {
	for _, way := range bothWays() {
		falls, stays := 0, 0
		eachPlay(t, 9, "RLC", way, 4, func(n api.Net, x []api.Q, h api.Q, l []api.State) {
			for i := range 4 {
				switch energyOf(t, n, l[i+1]).Cmp(energyOf(t, n, l[i])) {
				case 1:
					t.Fatalf("Play(%v, %v, %s): it has more energy in %v than in %v", n, x, h, l[i+1], l[i])
				case 0:
					stays++
				case -1:
					falls++
				}
			}
		})
		if falls < fewestSeen || stays == 0 {
			t.Errorf("it falls %d times, and stays %d times", falls, stays)
		}
	}
	// A ladder of L and C rings on for ever.
	n := netOf(4, part(api.C, 1, 0, "1/2"), part(api.L, 1, 2, "3"), part(api.C, 2, 0, "2/3"), part(api.L, 2, 3, "1"), part(api.C, 3, 0, "5"))
	l, f := Play(n, words("1 -2 3 1/2 -1/3"), "3/4", api.Trapezoid, 20)
	if f != (api.Fault{}) || len(l) != 21 {
		t.Fatalf("%v", f)
	}
	for _, s := range l {
		if e := energyOf(t, n, s); e.RatString() != "695/72" {
			t.Errorf("%v: %v", s, e)
		}
	}
}

// What two beginnings and two lots of sources do together is the sum of what each does alone.
func TestPlaysAddUp(t *testing.T) {
	r := rand.New(rand.NewSource(12))
	add := func(a, b []api.Q) []api.Q {
		var out []api.Q
		for i := range a {
			out = append(out, told(plus(rat(a[i]), rat(b[i]))))
		}
		return out
	}
	for _, way := range bothWays() {
		eachPlay(t, 11, allKinds, way, 3, func(n api.Net, x []api.Q, h api.Q, l []api.State) {
			other := netOf(n.Nodes, slices.Clone(n.Parts)...)
			both := netOf(n.Nodes, slices.Clone(n.Parts)...)
			for i, p := range n.Parts {
				if p.Kind == api.V || p.Kind == api.I {
					other.Parts[i].Value = told(someFraction(r))
					both.Parts[i].Value = told(plus(rat(p.Value), rat(other.Parts[i].Value)))
				}
			}
			y := tellAll(someX(r, n))
			m, _ := Play(other, y, h, way, 3)
			sum, f := Play(both, add(x, y), h, way, 3)
			if f != (api.Fault{}) {
				t.Fatalf("Play(%v): %v", both, f)
			}
			for i, s := range sum {
				if !sameState(s, api.State{Across: add(l[i].Across, m[i].Across), Amps: add(l[i].Amps, m[i].Amps)}) {
					t.Fatalf("Play(%v, %v) and Play(%v, %v) don't add up", n, x, other, y)
				}
			}
		})
	}
}

// someLong draws a fraction of so many digits above and below the bar.
func someLong(r *rand.Rand, digits int) *big.Rat {
	most := new(big.Int).Exp(big.NewInt(10), big.NewInt(int64(digits)), nil)
	long := func() *big.Int { return new(big.Int).Add(new(big.Int).Rand(r, most), big.NewInt(1)) }
	return new(big.Rat).SetFrac(long(), long())
}

// Fractions of many digits in all places.
func TestPlaysOfLongNumbers(t *testing.T) {
	r := rand.New(rand.NewSource(13))
	for _, way := range bothWays() {
		n := calmed()
		for i := range n.Parts {
			n.Parts[i].Value = told(someLong(r, 60))
		}
		x, h := []*big.Rat{someLong(r, 60), minus(whole(0), someLong(r, 60))}, someLong(r, 60)
		l, f := Play(n, tellAll(x), told(h), way, 8)
		if f != (api.Fault{}) || len(l) != 9 {
			t.Fatalf("%v", f)
		}
		across, amps, _ := reckon(n, beginning(n, x))
		for i, s := range l {
			if !sameState(s, stateTold(across, amps)) {
				t.Fatalf("by %d: the state %d is another one", way, i)
			}
			energy := half(plus(times(rat(n.Parts[1].Value), times(amps[1], amps[1])), times(rat(n.Parts[3].Value), times(across[3], across[3]))))
			if energyOf(t, n, s).Cmp(energy) != 0 {
				t.Fatalf("by %d: the state %d has another energy", way, i)
			}
			across, amps, _ = reckon(n, going(across, amps, h, way))
		}
	}
}

// Any texts for anything: a call ends, and tells either a fault or a whole state.
func TestAnyTexts(t *testing.T) {
	r := rand.New(rand.NewSource(14))
	texts := append(words("_ 0 1 -1 2 1/2 -3/4 x 1/0 -0 00 007/014 1.5 - / -/ 1/ /1 1//2 １ "+ten50), "1 2", "\x00", "\xff")
	some := func() api.Q { return texts[r.Intn(len(texts))] }
	list := func(n int) []api.Q {
		var out []api.Q
		for range max(0, n+[]int{0, 0, 0, 0, 1, -1}[r.Intn(6)]) {
			out = append(out, some())
		}
		return out
	}
	done := 0
	for range 4000 {
		n := api.Net{Nodes: r.Intn(api.MaxNodes+3) - 1}
		for range r.Intn(7) {
			p := api.Part{Kind: r.Intn(8), A: r.Intn(5) - r.Intn(2), B: r.Intn(5), Value: some()}
			if r.Intn(3) > 0 {
				p = part(1+r.Intn(5), r.Intn(2), r.Intn(2), some())
			}
			n.Parts = append(n.Parts, p)
		}
		way, steps := r.Intn(4), r.Intn(7)-1
		l, f := Play(n, list(countStores(n)), some(), way, steps)
		if f.Code == api.OK && len(l) != steps+1 || f.Code != api.OK && l != nil {
			t.Fatalf("%v: %v, %v", n, l, f)
		}
		s, f := Step(n, api.State{Across: list(len(n.Parts)), Amps: list(len(n.Parts))}, some(), way)
		if f.Code != api.OK && !sameState(s, api.State{}) {
			t.Fatalf("%v: %v, %v", n, s, f)
		}
		for _, s := range append(l, s) {
			rats(s.Across)
			rats(s.Amps)
			done++
		}
	}
	if done < fewestSeen {
		t.Errorf("only %d states were told", done)
	}
}
