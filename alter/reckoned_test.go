package alter

import (
	"math/big"
	"math/rand"
	"reflect"
	"slices"
	"testing"

	"voltaic/api"
	"voltaic/direct"
)

func rat(q api.Q) *big.Rat {
	x, ok := new(big.Rat).SetString(string(q))
	if !ok || x.RatString() != string(q) {
		panic("not in lowest terms: " + string(q))
	}
	return x
}

func whole(n int) *big.Rat         { return big.NewRat(int64(n), 1) }
func plus(x, y *big.Rat) *big.Rat  { return new(big.Rat).Add(x, y) }
func minus(x, y *big.Rat) *big.Rat { return new(big.Rat).Sub(x, y) }
func times(x, y *big.Rat) *big.Rat { return new(big.Rat).Mul(x, y) }

const (
	allKinds   = "RLCVIEG"
	fewestSeen = 100
)

func kindOf(letter byte) int { return slices.Index([]byte(".RLCVIEG"), letter) }

// someNet draws a net of such kinds with which nothing is wrong; its values are few, so that parts often cancel each other.
func someNet(r *rand.Rand, kinds string) api.Net {
	n := api.Net{Nodes: 1 + r.Intn(5)}
	for range r.Intn(api.MaxParts + 1) {
		p := part(api.R, r.Intn(n.Nodes), r.Intn(n.Nodes), api.Q(big.NewRat(int64(1+r.Intn(4)), int64(1+r.Intn(3))).RatString()))
		if r.Intn(3) > 0 {
			p.Kind = kindOf(kinds[r.Intn(len(kinds))])
		}
		if p.Kind >= api.V && r.Intn(2) == 0 {
			p.Value = api.Q(minus(rat(p.Value), whole(2)).RatString())
		}
		if p.Kind >= api.E {
			p.C, p.D = r.Intn(n.Nodes), r.Intn(n.Nodes)
		}
		n.Parts = append(n.Parts, p)
	}
	return n
}

func somePace(r *rand.Rand) api.Q {
	return []api.Q{"0", "1", "2", "1/2", "3/2", "7/5"}[r.Intn(6)]
}

// equations of a net by the words of the chapters, the ground's among them, in fractions: each complex unknown (volts of nodes but the ground, amps) is two, each equation is two.
func equations(n api.Net, pace *big.Rat) [][]*big.Rat {
	var out [][]*big.Rat
	unknowns := 2 * (n.Nodes - 1 + len(n.Parts))
	pair := func() (re, im []*big.Rat) {
		for range unknowns + 1 {
			re, im = append(re, whole(0)), append(im, whole(0))
		}
		out = append(out, re, im)
		return re, im
	}
	// Adds (realBy + i turnedBy) times the unknown.
	add := func(re, im []*big.Rat, unknown int, realBy, turnedBy *big.Rat) {
		if unknown < 0 {
			return // the ground
		}
		re[2*unknown] = plus(re[2*unknown], realBy)
		re[2*unknown+1] = minus(re[2*unknown+1], turnedBy)
		im[2*unknown] = plus(im[2*unknown], turnedBy)
		im[2*unknown+1] = plus(im[2*unknown+1], realBy)
	}
	none, one := whole(0), whole(1)
	for node := range n.Nodes {
		re, im := pair()
		for i, p := range n.Parts {
			if p.A == node {
				add(re, im, n.Nodes-1+i, one, none)
			}
			if p.B == node {
				add(re, im, n.Nodes-1+i, whole(-1), none)
			}
		}
	}
	for i, p := range n.Parts {
		re, im := pair()
		value := rat(p.Value)
		across := func(high, low int, realBy, turnedBy *big.Rat) {
			add(re, im, high-1, realBy, turnedBy)
			add(re, im, low-1, minus(none, realBy), minus(none, turnedBy))
		}
		flow := n.Nodes - 1 + i
		switch p.Kind {
		case api.R:
			across(p.A, p.B, one, none)
			add(re, im, flow, minus(none, value), none)
		case api.L:
			across(p.A, p.B, one, none)
			add(re, im, flow, none, minus(none, times(pace, value)))
		case api.C:
			add(re, im, flow, one, none)
			across(p.A, p.B, none, minus(none, times(pace, value)))
		case api.V, api.E:
			across(p.A, p.B, one, none)
		case api.I, api.G:
			add(re, im, flow, one, none)
		}
		switch p.Kind {
		case api.V, api.I:
			re[unknowns] = value
		case api.E, api.G:
			across(p.D, p.C, value, none)
		}
	}
	return out
}

// rank is how many of the rows, up to that column, don't follow from others.
func rank(rows [][]*big.Rat, columns int) int {
	rows = slices.Clone(rows)
	done := 0
	for c := range columns {
		at := slices.IndexFunc(rows[done:], func(l []*big.Rat) bool { return l[c].Sign() != 0 })
		if at < 0 {
			continue
		}
		rows[done], rows[done+at] = rows[done+at], rows[done]
		for i := done + 1; i < len(rows); i++ {
			if rows[i][c].Sign() == 0 {
				continue
			}
			by := new(big.Rat).Quo(rows[i][c], rows[done][c])
			less := slices.Clone(rows[i])
			for k := c; k < len(less); k++ {
				less[k] = minus(rows[i][k], times(by, rows[done][k]))
			}
			rows[i] = less
		}
		done++
	}
	return done
}

// outcome tells by ranks how many answers there are.
func outcome(n api.Net, w api.Q) api.Errno {
	rows, unknowns := equations(n, rat(w)), 2*(n.Nodes-1+len(n.Parts))
	switch alone := rank(rows, unknowns); {
	case alone < rank(rows, unknowns+1):
		return api.ErrNone
	case alone < unknowns:
		return api.ErrFree
	}
	return api.OK
}

// fits puts an answer into the equations.
func fits(n api.Net, w api.Q, s api.Swing) bool {
	if len(s.Volts) != n.Nodes || len(s.Amps) != len(n.Parts) || s.Volts[0] != (api.Z{Re: "0", Im: "0"}) {
		return false
	}
	for _, l := range equations(n, rat(w)) {
		sum := minus(whole(0), l[len(l)-1])
		for i, z := range append(slices.Clone(s.Volts[1:]), s.Amps...) {
			sum = plus(sum, plus(times(l[2*i], rat(z.Re)), times(l[2*i+1], rat(z.Im))))
		}
		if sum.Sign() != 0 {
			return false
		}
	}
	return true
}

func TestSolveAgainstAnotherReckoner(t *testing.T) {
	r := rand.New(rand.NewSource(1))
	told := map[api.Errno]int{}
	for range 2000 {
		n, w := someNet(r, allKinds), somePace(r)
		want := outcome(n, w)
		s, f := Solve(n, w)
		if f != (api.Fault{Code: want}) || want == api.OK && !fits(n, w, s) {
			t.Fatalf("Solve(%v, %s): %v, %v, want %d", n, w, s, f, want)
		}
		if want != api.OK {
			wantFault(t, n, w, want, 0)
		}
		told[want]++
	}
	for _, code := range []api.Errno{api.OK, api.ErrNone, api.ErrFree} {
		if told[code] < 2*fewestSeen {
			t.Errorf("%d is told %d times only", code, told[code])
		}
	}
}

// Nets of L, C and one source alone, at paces at which they often ring.
func TestSolveWhatOftenRings(t *testing.T) {
	r := rand.New(rand.NewSource(2))
	rang := 0
	for range 4000 {
		n := netOf(2+r.Intn(2), part([]int{api.V, api.I}[r.Intn(2)], 1, 0, "1"))
		for range 1 + r.Intn(4) {
			a := r.Intn(n.Nodes)
			n.Parts = append(n.Parts, part([]int{api.L, api.C}[r.Intn(2)], a, (a+1)%n.Nodes, []api.Q{"1", "2", "1/2"}[r.Intn(3)]))
		}
		w := []api.Q{"1", "2", "1/2"}[r.Intn(3)]
		want := outcome(n, w)
		s, f := Solve(n, w)
		if f != (api.Fault{Code: want}) || want == api.OK && !fits(n, w, s) {
			t.Fatalf("Solve(%v, %s): %v, %v, want %d", n, w, s, f, want)
		}
		if want != api.OK && outcome(n, "99/98") == api.OK {
			rang++
		}
	}
	if rang < fewestSeen {
		t.Errorf("only %d nets ring", rang)
	}
}

// eachSwing goes through nets and paces that have one answer.
func eachSwing(t *testing.T, seed int64, kinds string, look func(n api.Net, w api.Q, s api.Swing)) {
	t.Helper()
	r := rand.New(rand.NewSource(seed))
	seen := 0
	for range 1500 {
		n, w := someNet(r, kinds), somePace(r)
		if s, f := Solve(n, w); f.Code == api.OK {
			look(n, w, s)
			seen++
		}
	}
	if seen < fewestSeen {
		t.Errorf("only %d nets of %s have one answer", seen, kinds)
	}
}

// watt is what is across a part times what flows with the other sign of its imaginary part.
func watt(s api.Swing, p api.Part, amps api.Z) (re, im *big.Rat) {
	acrossRe := minus(rat(s.Volts[p.A].Re), rat(s.Volts[p.B].Re))
	acrossIm := minus(rat(s.Volts[p.A].Im), rat(s.Volts[p.B].Im))
	flowRe, flowIm := rat(amps.Re), minus(whole(0), rat(amps.Im))
	re = minus(times(acrossRe, flowRe), times(acrossIm, flowIm))
	im = plus(times(acrossRe, flowIm), times(acrossIm, flowRe))
	return re, im
}

func TestPowerIsAcrossTimesFlowMirrored(t *testing.T) {
	turned, taken := 0, 0
	eachSwing(t, 3, allKinds, func(n api.Net, w api.Q, s api.Swing) {
		watts, f := Power(n, w)
		if f != (api.Fault{}) || len(watts) != len(n.Parts) {
			t.Fatalf("Power(%v, %s): %v, %v", n, w, watts, f)
		}
		sumRe, sumIm := whole(0), whole(0)
		for i, p := range n.Parts {
			re, im := watt(s, p, s.Amps[i])
			if re.Cmp(rat(watts[i].Re)) != 0 || im.Cmp(rat(watts[i].Im)) != 0 {
				t.Fatalf("Power(%v, %s): %v, of %v", n, w, watts, s)
			}
			sumRe, sumIm = plus(sumRe, re), plus(sumIm, im)
			switch p.Kind {
			case api.R:
				if watts[i].Im != "0" || re.Sign() < 0 {
					t.Fatalf("Power(%v, %s): %v of the resistor %d", n, w, watts[i], i)
				}
				taken += re.Sign()
			case api.L, api.C:
				if watts[i].Re != "0" {
					t.Fatalf("Power(%v, %s): %v of the part %d", n, w, watts[i], i)
				}
				turned += im.Sign() * im.Sign()
			}
		}
		if sumRe.Sign() != 0 || sumIm.Sign() != 0 {
			t.Fatalf("Power(%v, %s): %v add up to %v, %v", n, w, watts, sumRe, sumIm)
		}
	})
	if turned < fewestSeen || taken < fewestSeen {
		t.Errorf("only %d resistors, and %d others, have watts", taken, turned)
	}
}

// At rest all is as in chapter 3; at any pace it is so of nets in which nothing swings.
func TestAnswersOfChapter3(t *testing.T) {
	r := rand.New(rand.NewSource(4))
	agree := func(n api.Net, w api.Q) {
		t.Helper()
		still, f := direct.Solve(n)
		stillWatts, _ := direct.Power(n)
		s, g := Solve(n, w)
		watts, h := Power(n, w)
		if f != g || f != h {
			t.Fatalf("%v at %s: %v, %v, want %v", n, w, g, h, f)
		}
		if !slices.Equal(s.Volts, unturned(still.Volts)) || !slices.Equal(s.Amps, unturned(still.Amps)) || !slices.Equal(watts, unturned(stillWatts)) {
			t.Fatalf("%v at %s: %v, %v, want %v, %v", n, w, s, watts, still, stillWatts)
		}
	}
	for range 1000 {
		agree(someNet(r, allKinds), "0")
		agree(someNet(r, "RVIEG"), somePace(r))
	}
}

// unturned are fractions as complex ones.
func unturned(l []api.Q) []api.Z {
	var out []api.Z
	for _, q := range l {
		out = append(out, api.Z{Re: q, Im: "0"})
	}
	return out
}

// What is handed in stays, and the spare room behind it, too; what is answered is no one else's.
func TestNothingIsShared(t *testing.T) {
	eachSwing(t, 5, allKinds, func(n api.Net, w api.Q, want api.Swing) {
		room := append(slices.Clone(n.Parts), part(77, 7, 7, "7"), part(78, 8, 8, "8"))
		before := slices.Clone(room)
		n.Parts = room[:len(n.Parts)]
		s, _ := Solve(n, w)
		spoil(s.Volts)
		if !slices.Equal(s.Amps, want.Amps) {
			t.Fatalf("%v: volts and amps share memory", n)
		}
		spoil(s.Amps)
		watts, _ := Power(n, w)
		kept := slices.Clone(watts)
		spoil(watts)
		watts, _ = Power(n, w)
		s, _ = Solve(n, w)
		if !reflect.DeepEqual(s, want) || !slices.Equal(watts, kept) {
			t.Fatalf("%v: %v, then %v; %v, then %v", n, want, s, kept, watts)
		}
		if !slices.Equal(room, before) {
			t.Fatalf("%v was changed to %v", before, room)
		}
	})
}

// spoil writes over a list and the spare room behind it.
func spoil(l []api.Z) {
	l = l[:cap(l)]
	for i := range l {
		l[i] = api.Z{Re: "spoilt"}
	}
}
