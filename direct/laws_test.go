package direct

import (
	"math/big"
	"math/rand"
	"reflect"
	"slices"
	"testing"

	"voltaic/api"
	"voltaic/net"
)

func rat(q api.Q) *big.Rat {
	x, ok := new(big.Rat).SetString(string(q))
	if !ok || x.RatString() != string(q) {
		panic("not in lowest terms: " + string(q))
	}
	return x
}

func whole(n int) *big.Rat { return big.NewRat(int64(n), 1) }

func plus(x, y *big.Rat) *big.Rat  { return new(big.Rat).Add(x, y) }
func minus(x, y *big.Rat) *big.Rat { return new(big.Rat).Sub(x, y) }
func times(x, y *big.Rat) *big.Rat { return new(big.Rat).Mul(x, y) }

func same(x, y *big.Rat) bool { return x.Cmp(y) == 0 }

func above(a api.Answer, high, low int) *big.Rat { return minus(rat(a.Volts[high]), rat(a.Volts[low])) }

func across(a api.Answer, p api.Part) *big.Rat { return above(a, p.A, p.B) }

const (
	allKinds   = "RLCVIEG"
	bothWays   = "RLCVI" // alike
	numbersOf  = 8
	fewestSeen = 100
)

func kindOf(letter byte) int {
	for kind, l := range []byte(".RLCVIEG") {
		if l == letter {
			return kind
		}
	}
	panic("no kind")
}

// someNet draws a net of such kinds with which nothing is wrong, with room for one more part. A resistor is as frequent as all others together, so that nets often have one answer.
func someNet(r *rand.Rand, kinds string) api.Net {
	n := api.Net{Nodes: 1 + r.Intn(5)}
	for range r.Intn(api.MaxParts) {
		n.Parts = append(n.Parts, somePart(r, kinds, r.Intn(n.Nodes), r.Intn(n.Nodes), n.Nodes))
	}
	return n
}

func somePart(r *rand.Rand, kinds string, a, b, nodes int) api.Part {
	p := api.Part{Kind: api.R, A: a, B: b}
	if r.Intn(2) == 0 {
		p.Kind = kindOf(kinds[r.Intn(len(kinds))])
	}
	value := big.NewRat(int64(1+r.Intn(numbersOf)), int64(1+r.Intn(3)))
	switch p.Kind {
	case api.E, api.G:
		p.C, p.D = r.Intn(nodes), r.Intn(nodes)
		fallthrough
	case api.V, api.I:
		value.Sub(value, whole(numbersOf/4))
	}
	p.Value = api.Q(value.RatString())
	return p
}

// eachSolved goes through nets that have one answer.
func eachSolved(t *testing.T, seed int64, kinds string, look func(r *rand.Rand, n api.Net, a api.Answer)) {
	t.Helper()
	r := rand.New(rand.NewSource(seed))
	seen := 0
	for range 1000 {
		n := someNet(r, kinds)
		if a, f := Solve(n); f.Code == api.OK {
			look(r, n, a)
			seen++
		}
	}
	if seen < fewestSeen {
		t.Errorf("only %d nets of %s have one answer", seen, kinds)
	}
}

// equations of a net by the words of the chapter, the ground's among them: numbers of the volts of all nodes but the ground, of the amps of all parts, and what they add up to.
func equations(n api.Net) [][]*big.Rat {
	var out [][]*big.Rat
	row := func() []*big.Rat {
		l := make([]*big.Rat, n.Nodes+len(n.Parts))
		for i := range l {
			l[i] = new(big.Rat)
		}
		out = append(out, l)
		return l
	}
	for node := range n.Nodes {
		l := row()
		for i, p := range n.Parts {
			if p.A != p.B && (p.A == node || p.B == node) {
				l[n.Nodes-1+i] = whole(1)
				if p.B == node {
					l[n.Nodes-1+i] = whole(-1)
				}
			}
		}
	}
	for i, p := range n.Parts {
		l := row()
		above := func(high, low int, by *big.Rat) {
			if high > 0 {
				l[high-1] = plus(l[high-1], by)
			}
			if low > 0 {
				l[low-1] = minus(l[low-1], by)
			}
		}
		value, last := rat(p.Value), len(l)-1
		switch p.Kind {
		case api.R, api.L, api.V, api.E:
			above(p.A, p.B, whole(1))
		default:
			l[n.Nodes-1+i] = whole(1)
		}
		switch p.Kind {
		case api.R:
			l[n.Nodes-1+i] = minus(whole(0), value)
		case api.V, api.I:
			l[last] = value
		case api.E, api.G:
			above(p.D, p.C, value)
		}
	}
	return out
}

// rank is how many of the rows, up to that column, don't follow from others.
func rank(rows [][]*big.Rat, columns int) int {
	rows = slices.Clone(rows)
	done := 0
	for c := range columns {
		at := slices.IndexFunc(rows[done:], func(l []*big.Rat) bool { return l[c].Sign() != 0 })
		if at < 0 {
			continue
		}
		rows[done], rows[done+at] = rows[done+at], rows[done]
		for i := done + 1; i < len(rows); i++ {
			by := new(big.Rat).Quo(rows[i][c], rows[done][c])
			less := make([]*big.Rat, len(rows[i]))
			for k := range less {
				less[k] = minus(rows[i][k], times(by, rows[done][k]))
			}
			rows[i] = less
		}
		done++
	}
	return done
}

// outcome tells by ranks how many answers there are.
func outcome(n api.Net) api.Errno {
	rows, unknowns := equations(n), n.Nodes-1+len(n.Parts)
	switch alone := rank(rows, unknowns); {
	case alone < rank(rows, unknowns+1):
		return api.ErrNone
	case alone < unknowns:
		return api.ErrFree
	}
	return api.OK
}

// fits puts an answer into the equations.
func fits(n api.Net, a api.Answer) bool {
	if len(a.Volts) != n.Nodes || len(a.Amps) != len(n.Parts) || a.Volts[0] != "0" {
		return false
	}
	for _, l := range equations(n) {
		sum := minus(whole(0), l[len(l)-1])
		for i, q := range append(slices.Clone(a.Volts[1:]), a.Amps...) {
			sum = plus(sum, times(l[i], rat(q)))
		}
		if sum.Sign() != 0 {
			return false
		}
	}
	return true
}

// P3.1

func TestSolveAgainstAnotherReckoner(t *testing.T) {
	r := rand.New(rand.NewSource(1))
	told := map[api.Errno]int{}
	for range 3000 {
		n := someNet(r, allKinds)
		want := outcome(n)
		a, f := Solve(n)
		if f != (api.Fault{Code: want}) || want == api.OK && !fits(n, a) {
			t.Fatalf("Solve(%v): %v, %v, want %d", n, a, f, want)
		}
		if want != api.OK {
			wantFault(t, n, want, 0)
		}
		told[want]++
	}
	for _, code := range []api.Errno{api.OK, api.ErrNone, api.ErrFree} {
		if told[code] < 4*fewestSeen {
			t.Errorf("%d is told %d times only", code, told[code])
		}
	}
}

func TestPowerIsAcrossTimesFlowAndAddsUpToNothing(t *testing.T) {
	eachSolved(t, 2, allKinds, func(_ *rand.Rand, n api.Net, a api.Answer) {
		watts, f := Power(n)
		if f != (api.Fault{}) || len(watts) != len(n.Parts) {
			t.Fatalf("Power(%v): %v, %v", n, watts, f)
		}
		sum := whole(0)
		for i, p := range n.Parts {
			if !same(rat(watts[i]), times(across(a, p), rat(a.Amps[i]))) {
				t.Fatalf("Power(%v): %v, of %v", n, watts, a)
			}
			sum = plus(sum, rat(watts[i]))
		}
		if sum.Sign() != 0 {
			t.Fatalf("Power(%v): %v add up to %v", n, watts, sum)
		}
	})
}

// P3.2

// quiet is the net with all V and I at 0 but one.
func quiet(n api.Net, but int) api.Net {
	n.Parts = slices.Clone(n.Parts)
	for i, p := range n.Parts {
		if i != but && (p.Kind == api.V || p.Kind == api.I) {
			n.Parts[i].Value = "0"
		}
	}
	return n
}

// with is the net with one part more.
func with(n api.Net, p api.Part) api.Net {
	n.Parts = append(slices.Clone(n.Parts), p)
	return n
}

// pushed is the answer if V and I are 0 and one ampere is pushed from one node to another.
func pushed(t *testing.T, n api.Net, from, to int) api.Answer {
	t.Helper()
	a, f := Solve(with(quiet(n, -1), part(api.I, from, to, "1")))
	if f != (api.Fault{}) {
		t.Fatalf("%v, pushed from %d to %d: %v", n, from, to, f)
	}
	return a
}

func TestSeenIsWhatSolveTells(t *testing.T) {
	eachSolved(t, 3, allKinds, func(_ *rand.Rand, n api.Net, x api.Answer) {
		for a := range n.Nodes {
			for b := range n.Nodes {
				wantSeen(t, n, a, b, api.Q(above(x, a, b).RatString()), api.Q(above(pushed(t, n, b, a), a, b).RatString()))
			}
		}
	})
}

// P3.3

func TestKirchhoffsLoops(t *testing.T) {
	eachSolved(t, 4, allKinds, func(_ *rand.Rand, n api.Net, a api.Answer) {
		loops, _ := net.Loops(n)
		for _, loop := range loops {
			sum := whole(0)
			for i, p := range n.Parts {
				sum = plus(sum, times(whole(loop[i]), across(a, p)))
			}
			if sum.Sign() != 0 {
				t.Fatalf("%v: across the loop %v there are %v", n, loop, sum)
			}
		}
	})
}

func TestTellegen(t *testing.T) {
	pairs := 0
	eachSolved(t, 5, allKinds, func(r *rand.Rand, n api.Net, a api.Answer) {
		other := api.Net{Nodes: n.Nodes}
		for _, p := range n.Parts {
			other.Parts = append(other.Parts, somePart(r, allKinds, p.A, p.B, n.Nodes))
		}
		b, f := Solve(other)
		if f.Code != api.OK {
			return
		}
		pairs++
		there, back := whole(0), whole(0)
		for i, p := range n.Parts {
			there = plus(there, times(across(a, p), rat(b.Amps[i])))
			back = plus(back, times(across(b, p), rat(a.Amps[i])))
		}
		if there.Sign() != 0 || back.Sign() != 0 {
			t.Fatalf("%v and %v: %v, %v", n, other, there, back)
		}
	})
	if pairs < fewestSeen {
		t.Errorf("only %d pairs", pairs)
	}
}

func TestSourcesTogetherAreTheSumOfEachAlone(t *testing.T) {
	eachSolved(t, 6, allKinds, func(_ *rand.Rand, n api.Net, together api.Answer) {
		want := append(slices.Clone(together.Volts), together.Amps...)
		sums := make([]*big.Rat, len(want))
		for i := range sums {
			sums[i] = whole(0)
		}
		for source, p := range n.Parts {
			if p.Kind != api.V && p.Kind != api.I {
				continue
			}
			a, f := Solve(quiet(n, source))
			if f != (api.Fault{}) {
				t.Fatalf("%v, %d alone: %v", n, source, f)
			}
			for i, q := range append(a.Volts, a.Amps...) {
				sums[i] = plus(sums[i], rat(q))
			}
		}
		for i, q := range want {
			if !same(sums[i], rat(q)) {
				t.Fatalf("%v: %v, but each alone %v", n, want, sums)
			}
		}
	})
}

func TestThevenin(t *testing.T) {
	eachSolved(t, 7, allKinds, func(r *rand.Rand, n api.Net, _ api.Answer) {
		for a := range n.Nodes {
			for b := range n.Nodes {
				volts, ohms, _ := Seen(n, a, b)
				more := big.NewRat(int64(1+r.Intn(9)), int64(1+r.Intn(3)))
				all := plus(rat(ohms), more)
				x, f := Solve(with(n, part(api.R, a, b, api.Q(more.RatString()))))
				if all.Sign() != 0 && (f != (api.Fault{}) || !same(times(all, rat(x.Amps[len(n.Parts)])), rat(volts))) {
					t.Fatalf("%v, seen as %s V and %s Ω, with %v Ω: %v, %v", n, volts, ohms, more, x, f)
				}
			}
		}
	})
}

// Where volts / (ohms + r) is divided by 0, there is no such flow, or any is one.
func TestTheveninDividedByZero(t *testing.T) {
	below := func(amps api.Q) api.Net {
		return netOf(2, led(api.G, 1, 0, 1, 0, "-1"), part(api.R, 1, 0, "2"), part(api.I, 0, 1, amps))
	}
	wantSeen(t, below("3"), 1, 0, "-6", "-2")
	wantFault(t, with(below("3"), part(api.R, 1, 0, "2")), api.ErrNone, 0)
	wantFault(t, with(below("0"), part(api.R, 1, 0, "2")), api.ErrFree, 0)
	wantSolve(t, with(below("3"), part(api.R, 1, 0, "3")), "0 -18", "18 -9 3 -6", "-324 162 54 108")
}

func TestBothWaysAlike(t *testing.T) {
	eachSolved(t, 8, bothWays, func(r *rand.Rand, n api.Net, _ api.Answer) {
		a, b, c, d := r.Intn(n.Nodes), r.Intn(n.Nodes), r.Intn(n.Nodes), r.Intn(n.Nodes)
		there, back := above(pushed(t, n, b, a), c, d), above(pushed(t, n, d, c), a, b)
		if !same(there, back) {
			t.Fatalf("%v: from %d and %d to %d and %d %v, back %v", n, a, b, c, d, there, back)
		}
	})
}

// onlyResistors has all other parts at the first one's place, from a node to itself, so that no loop of others is theirs.
func onlyResistors(n api.Net) api.Net {
	n.Parts = slices.Clone(n.Parts)
	for i, p := range n.Parts {
		if p.Kind != api.R {
			n.Parts[i].A, n.Parts[i].B = 0, 0
		}
	}
	return n
}

func heat(n api.Net, amps []*big.Rat) *big.Rat {
	sum := whole(0)
	for i, p := range n.Parts {
		if p.Kind == api.R {
			sum = plus(sum, times(rat(p.Value), times(amps[i], amps[i])))
		}
	}
	return sum
}

func TestThomsonsLeastHeat(t *testing.T) {
	more := 0
	eachSolved(t, 9, "RI", func(r *rand.Rand, n api.Net, a api.Answer) {
		var amps, others []*big.Rat
		for _, q := range a.Amps {
			amps, others = append(amps, rat(q)), append(others, rat(q))
		}
		loops, _ := net.Loops(onlyResistors(n))
		for _, loop := range loops {
			around := big.NewRat(int64(r.Intn(7)-3), int64(1+r.Intn(20)))
			for i, p := range n.Parts {
				if p.Kind == api.R {
					others[i] = plus(others[i], times(around, whole(loop[i])))
				}
			}
		}
		least, other := heat(n, amps), heat(n, others)
		if other.Cmp(least) < 0 {
			t.Fatalf("%v: %v makes %v W, %v makes %v W", n, amps, least, others, other)
		}
		if other.Cmp(least) > 0 && least.Sign() > 0 {
			more++
		}
	})
	if more < fewestSeen {
		t.Errorf("something else flows in %d nets only", more)
	}
}

// What is handed in stays, and the spare room behind it, too; what is answered is no one else's.
func TestNothingIsShared(t *testing.T) {
	eachSolved(t, 10, allKinds, func(r *rand.Rand, n api.Net, want api.Answer) {
		room := append(slices.Clone(n.Parts), part(77, 7, 7, "7"), part(78, 8, 8, "8"))
		before := slices.Clone(room)
		n.Parts = room[:len(n.Parts)]
		a, _ := Solve(n)
		spoil(a.Volts)
		if !slices.Equal(a.Amps, want.Amps) {
			t.Fatalf("%v: volts and amps share memory", n)
		}
		spoil(a.Amps)
		watts, _ := Power(n)
		kept := slices.Clone(watts)
		spoil(watts)
		watts, _ = Power(n)
		a, _ = Solve(n)
		if !reflect.DeepEqual(a, want) || !slices.Equal(watts, kept) {
			t.Fatalf("%v: %v, then %v; %v, then %v", n, want, a, kept, watts)
		}
		Seen(n, r.Intn(n.Nodes), r.Intn(n.Nodes))
		if !slices.Equal(room, before) {
			t.Fatalf("%v was changed to %v", before, room)
		}
	})
}

// spoil writes over a list and the spare room behind it.
func spoil(l []api.Q) {
	l = l[:cap(l)]
	for i := range l {
		l[i] = "spoilt"
	}
}
