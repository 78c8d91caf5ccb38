package transfer

import (
	"math/big"
	"math/rand"
	"slices"
	"testing"

	"voltaic/alter"
	"voltaic/api"
)

func rat(q api.Q) *big.Rat {
	x, ok := new(big.Rat).SetString(string(q))
	if !ok || x.RatString() != string(q) {
		panic("not in lowest terms: " + string(q))
	}
	return x
}

func whole(n int) *big.Rat         { return big.NewRat(int64(n), 1) }
func plus(x, y *big.Rat) *big.Rat  { return new(big.Rat).Add(x, y) }
func minus(x, y *big.Rat) *big.Rat { return new(big.Rat).Sub(x, y) }
func times(x, y *big.Rat) *big.Rat { return new(big.Rat).Mul(x, y) }
func over(x, y *big.Rat) *big.Rat  { return new(big.Rat).Quo(x, y) }

const fewestSeen = 100

// someNet draws a net with which nothing is wrong; its values are few, so that parts often cancel each other.
func someNet(r *rand.Rand) api.Net {
	n := api.Net{Nodes: 1 + r.Intn(5)}
	for range r.Intn(12) {
		p := part(api.R+r.Intn(3), r.Intn(n.Nodes), r.Intn(n.Nodes), api.Q(big.NewRat(int64(1+r.Intn(4)), int64(1+r.Intn(3))).RatString()))
		if r.Intn(3) == 0 {
			p.Kind = api.V + r.Intn(4)
		}
		if p.Kind >= api.V && r.Intn(2) == 0 {
			p.Value = api.Q(minus(rat(p.Value), whole(2)).RatString())
		}
		if p.Kind >= api.E {
			p.C, p.D = r.Intn(n.Nodes), r.Intn(n.Nodes)
		}
		n.Parts = append(n.Parts, p)
	}
	return n
}

// pushed is, by the words of the chapter, the net with V and I at 0 and one ampere more.
func pushed(n api.Net, a, b int) api.Net {
	out := api.Net{Nodes: n.Nodes}
	for _, p := range n.Parts {
		if p.Kind == api.V || p.Kind == api.I {
			p.Value = "0"
		}
		out.Parts = append(out.Parts, p)
	}
	out.Parts = append(out.Parts, part(api.I, b, a, "1"))
	return out
}

// equations of a net by the words of the chapters, the ground's among them, at a fraction for s; the unknowns are the volts of nodes but the ground, then the amps.
func equations(n api.Net, s *big.Rat) [][]*big.Rat {
	unknowns := n.Nodes - 1 + len(n.Parts)
	var out [][]*big.Rat
	row := func() []*big.Rat {
		l := make([]*big.Rat, unknowns+1)
		for i := range l {
			l[i] = whole(0)
		}
		out = append(out, l)
		return l
	}
	add := func(l []*big.Rat, unknown int, by *big.Rat) {
		if unknown >= 0 {
			l[unknown] = plus(l[unknown], by)
		}
	}
	across := func(l []*big.Rat, high, low int, by *big.Rat) {
		add(l, high-1, by)
		add(l, low-1, minus(whole(0), by))
	}
	for node := range n.Nodes {
		l := row()
		for i, p := range n.Parts {
			if p.A == node {
				add(l, n.Nodes-1+i, whole(1))
			}
			if p.B == node {
				add(l, n.Nodes-1+i, whole(-1))
			}
		}
	}
	for i, p := range n.Parts {
		l, value, flow := row(), rat(p.Value), n.Nodes-1+i
		switch p.Kind {
		case api.R, api.L, api.V, api.E:
			across(l, p.A, p.B, whole(1))
		case api.C, api.I, api.G:
			add(l, flow, whole(1))
		}
		switch p.Kind {
		case api.R:
			add(l, flow, minus(whole(0), value))
		case api.L:
			add(l, flow, minus(whole(0), times(s, value)))
		case api.C:
			across(l, p.B, p.A, times(s, value))
		case api.V, api.I:
			l[unknowns] = value
		case api.E, api.G:
			across(l, p.D, p.C, value)
		}
	}
	return out
}

// reduce brings equations into steps; rank is how many of the rows, up to that column, don't follow from others.
func reduce(rows [][]*big.Rat, columns int) (steps [][]*big.Rat, rank int) {
	rows = slices.Clone(rows)
	for c := range columns {
		at := slices.IndexFunc(rows[rank:], func(l []*big.Rat) bool { return l[c].Sign() != 0 })
		if at < 0 {
			continue
		}
		rows[rank], rows[rank+at] = rows[rank+at], rows[rank]
		for i := range rows {
			if i == rank || rows[i][c].Sign() == 0 {
				continue
			}
			by := over(rows[i][c], rows[rank][c])
			less := slices.Clone(rows[i])
			for k := c; k < len(less); k++ {
				less[k] = minus(rows[i][k], times(by, rows[rank][k]))
			}
			rows[i] = less
		}
		rank++
	}
	return rows, rank
}

// solvedAt tells the volts at s, the ground's among them, if there is one answer there.
func solvedAt(n api.Net, s *big.Rat) ([]*big.Rat, api.Errno) {
	unknowns := n.Nodes - 1 + len(n.Parts)
	steps, alone := reduce(equations(n, s), unknowns)
	if _, all := reduce(steps, unknowns+1); all > alone {
		return nil, api.ErrNone
	}
	if alone < unknowns {
		return nil, api.ErrFree
	}
	out := []*big.Rat{whole(0)}
	for i := range n.Nodes - 1 {
		out = append(out, over(steps[i][unknowns], steps[i][i]))
	}
	return out, api.OK
}

func acrossAt(n api.Net, s api.Q, a, b int) api.Q {
	volts, _ := solvedAt(n, rat(s))
	return api.Q(minus(volts[a], volts[b]).RatString())
}

// At such places, none of which the nets here know of, a net is as it is for s itself, but by chance.
func strange(i int) *big.Rat { return big.NewRat(int64(1000003+7919*i), 611953) }

func polyAt(l []api.Q, s *big.Rat) *big.Rat {
	out := whole(0)
	for i := len(l) - 1; i >= 0; i-- {
		out = plus(times(out, s), rat(l[i]))
	}
	return out
}

// valueOf is a fraction's value, or nil.
func valueOf(r api.Ratio, s *big.Rat) *big.Rat {
	down := polyAt(r.Down, s)
	if down.Sign() == 0 {
		return nil
	}
	return over(polyAt(r.Up, s), down)
}

// isLowest tells whether a fraction is told as DOC asks: by Euclid's way.
func isLowest(r api.Ratio) bool {
	if len(r.Down) == 0 || r.Down[len(r.Down)-1] != "1" || len(r.Up) > 0 && rat(r.Up[len(r.Up)-1]).Sign() == 0 {
		return false
	}
	numbers := func(l []api.Q) []*big.Rat {
		var out []*big.Rat
		for _, q := range l {
			out = append(out, rat(q))
		}
		return out
	}
	x, y := numbers(r.Up), numbers(r.Down)
	for len(y) > 0 {
		for len(x) >= len(y) {
			by := over(x[len(x)-1], y[len(y)-1])
			for i := range y {
				x[len(x)-len(y)+i] = minus(x[len(x)-len(y)+i], times(by, y[i]))
			}
			for len(x) > 0 && x[len(x)-1].Sign() == 0 {
				x = x[:len(x)-1]
			}
		}
		x, y = y, x
	}
	return len(x) == 1
}

// is tells whether r is the fraction whose values are told; degree bounds those of both.
func is(r api.Ratio, value func(s *big.Rat) *big.Rat, degree int) bool {
	for i := range 2*degree + 1 {
		got := valueOf(r, strange(i))
		if got == nil || got.Cmp(value(strange(i))) != 0 {
			return false
		}
	}
	return isLowest(r) && len(r.Up) <= degree+1 && len(r.Down) <= degree+1
}

func TestVoltsAgainstAnotherReckoner(t *testing.T) {
	r := rand.New(rand.NewSource(1))
	told := map[api.Errno]int{}
	moving := 0
	for range 800 {
		n := someNet(r)
		_, want := solvedAt(n, strange(0))
		volts, f := Volts(n)
		if f != (api.Fault{Code: want}) || want != api.OK && volts != nil || want == api.OK && len(volts) != n.Nodes {
			t.Fatalf("Volts(%v): %v, %v, want %d", n, volts, f, want)
		}
		for node, x := range volts {
			at := func(s *big.Rat) *big.Rat { l, _ := solvedAt(n, s); return l[node] }
			if !is(x, at, len(n.Parts)) {
				t.Fatalf("Volts(%v): %v of node %d", n, x, node)
			}
			moving += min(1, len(x.Down)-1)
		}
		told[want]++
	}
	for _, code := range []api.Errno{api.OK, api.ErrNone, api.ErrFree} {
		if told[code] < fewestSeen/2 {
			t.Errorf("%d is told %d times only", code, told[code])
		}
	}
	if moving < fewestSeen {
		t.Errorf("only %d nodes have polynomials below the bar", moving)
	}
}

func TestBetweenAgainstAnotherReckoner(t *testing.T) {
	r := rand.New(rand.NewSource(2))
	told := map[api.Errno]int{}
	for range 500 {
		n := someNet(r)
		a, b := r.Intn(n.Nodes), r.Intn(n.Nodes)
		other := pushed(n, a, b)
		_, want := solvedAt(other, strange(0))
		x, f := Between(n, a, b)
		if f != (api.Fault{Code: want}) || want != api.OK && (x.Up != nil || x.Down != nil) {
			t.Fatalf("Between(%v, %d, %d): %v, %v, want %d", n, a, b, x, f, want)
		}
		at := func(s *big.Rat) *big.Rat { l, _ := solvedAt(other, s); return minus(l[a], l[b]) }
		if want == api.OK && !is(x, at, len(n.Parts)) {
			t.Fatalf("Between(%v, %d, %d): %v", n, a, b, x)
		}
		told[want]++
	}
	for _, code := range []api.Errno{api.OK, api.ErrNone, api.ErrFree} {
		if told[code] < fewestSeen/4 {
			t.Errorf("%d is told %d times only", code, told[code])
		}
	}
}

// someRatio draws one whose parts often have divisors in common, with noughts at their ends.
func someRatio(r *rand.Rand) api.Ratio {
	product := func() []api.Q {
		out := []*big.Rat{whole(r.Intn(5))}
		for range r.Intn(6) {
			root := whole(r.Intn(5) - 2)
			longer := append([]*big.Rat{whole(0)}, out...)
			for i := range out {
				longer[i] = minus(longer[i], times(root, out[i]))
			}
			out = longer
		}
		var l []api.Q
		for _, x := range out {
			l = append(l, api.Q(x.RatString()))
		}
		return append(l, slices.Repeat([]api.Q{"0"}, r.Intn(3))...)
	}
	return api.Ratio{Up: product(), Down: product()}
}

// near is what a fraction comes near to, at a root of what is below the bar: both are divided by s less it as often as can be.
func near(r api.Ratio, s *big.Rat) (value *big.Rat, code api.Errno) {
	up, down := r.Up, r.Down
	for polyAt(down, s).Sign() == 0 {
		if polyAt(up, s).Sign() != 0 {
			return nil, api.ErrZero
		}
		if !slices.ContainsFunc(down, func(q api.Q) bool { return q != "0" }) {
			return nil, api.ErrZero
		}
		up, down = withoutRoot(up, s), withoutRoot(down, s)
	}
	return over(polyAt(up, s), polyAt(down, s)), api.OK
}

func withoutRoot(l []api.Q, root *big.Rat) []api.Q {
	out := make([]api.Q, max(0, len(l)-1))
	carry := whole(0)
	for i := len(l) - 1; i > 0; i-- {
		carry = plus(rat(l[i]), times(carry, root))
		out[i-1] = api.Q(carry.RatString())
	}
	return out
}

func TestAtAgainstAnotherReckoner(t *testing.T) {
	r := rand.New(rand.NewSource(3))
	mended, refused := 0, 0
	for range 5000 {
		x, s := someRatio(r), big.NewRat(int64(r.Intn(9)-4), int64(1+r.Intn(2)))
		want, code := near(x, s)
		got, e := At(x, api.Q(s.RatString()))
		if e != code || code == api.OK && want.Cmp(rat(got)) != 0 || code != api.OK && got != "" {
			t.Fatalf("At(%v, %v): %s, %d, want %v, %d", x, s, got, e, want, code)
		}
		if code == api.OK && polyAt(x.Down, s).Sign() == 0 {
			mended++
		}
		refused += min(1, int(code))
	}
	if mended < fewestSeen || refused < fewestSeen {
		t.Errorf("only %d common roots, and %d others", mended, refused)
	}
}

// Turning is what is reckoned of even and odd powers alone, and turns the other way below 0.
func TestTurningAgainstAnotherReckoner(t *testing.T) {
	r := rand.New(rand.NewSource(4))
	turned := func(l []api.Q, w *big.Rat) (re, im *big.Rat) {
		re, im = whole(0), whole(0)
		power := whole(1)
		for i, q := range l {
			by := times(rat(q), power)
			switch i % 4 {
			case 0:
				re = plus(re, by)
			case 1:
				im = plus(im, by)
			case 2:
				re = minus(re, by)
			case 3:
				im = minus(im, by)
			}
			power = times(power, w)
		}
		return re, im
	}
	seen := 0
	for range 2000 {
		x, w := someRatio(r), big.NewRat(int64(r.Intn(9)-4), int64(1+r.Intn(3)))
		downRe, downIm := turned(x.Down, w)
		square := plus(times(downRe, downRe), times(downIm, downIm))
		if square.Sign() == 0 {
			continue
		}
		upRe, upIm := turned(x.Up, w)
		re := over(plus(times(upRe, downRe), times(upIm, downIm)), square)
		im := over(minus(times(upIm, downRe), times(upRe, downIm)), square)
		if got, e := Turning(x, api.Q(w.RatString())); e != api.OK || rat(got.Re).Cmp(re) != 0 || rat(got.Im).Cmp(im) != 0 {
			t.Fatalf("Turning(%v, %v): %v, %d, want %v, %v", x, w, got, e, re, im)
		}
		seen++
	}
	if seen < fewestSeen {
		t.Errorf("only %d seen", seen)
	}
}

// P7.3, at several paces.
func TestTurningOfVoltsIsSwinging(t *testing.T) {
	r := rand.New(rand.NewSource(5))
	seen, stuck := 0, 0
	for range 600 {
		n := someNet(r)
		volts, f := Volts(n)
		for _, w := range []api.Q{"0", "1", "1/2", "3/2", "7/5", "1000"} {
			s, g := alter.Solve(n, w)
			if g.Code != api.OK {
				stuck++
				continue
			}
			if f.Code != api.OK {
				t.Fatalf("%v swings at %s, but has %v in s", n, w, f)
			}
			for node, x := range volts {
				if len(x.Up) > api.MaxDegree+1 || len(x.Down) > api.MaxDegree+1 {
					continue
				}
				if z, e := Turning(x, w); e != api.OK || z != s.Volts[node] {
					t.Fatalf("%v at %s: %v, %d at node %d, want %v", n, w, z, e, node, s.Volts[node])
				}
				seen++
			}
		}
	}
	if seen < 10*fewestSeen || stuck < fewestSeen {
		t.Errorf("only %d volts are turned, and %d nets don't swing", seen, stuck)
	}
}

// What is handed in stays, and the spare room behind it, too; what is answered is no one else's.
func TestNothingIsShared(t *testing.T) {
	r := rand.New(rand.NewSource(6))
	for range 300 {
		n := someNet(r)
		room := append(slices.Clone(n.Parts), part(77, 7, 7, "7"), part(78, 8, 8, "8"))
		before := slices.Clone(room)
		n.Parts = room[:len(n.Parts)]
		want, f := Volts(n)
		if f.Code != api.OK {
			continue
		}
		for spoilt := range want {
			l, _ := Volts(n)
			spoil(l[spoilt].Up)
			if !slices.Equal(l[spoilt].Down, want[spoilt].Down) {
				t.Fatalf("%v: both lists of node %d share memory", n, spoilt)
			}
			spoil(l[spoilt].Down)
			for node := range l {
				if node != spoilt && !same(l[node], want[node]) {
					t.Fatalf("%v: nodes %d and %d share memory", n, node, spoilt)
				}
			}
		}
		x, f := Between(n, n.Nodes-1, 0)
		kept := api.Ratio{Up: slices.Clone(x.Up), Down: slices.Clone(x.Down)}
		spoil(x.Up)
		spoil(x.Down)
		if x, g := Between(n, n.Nodes-1, 0); f != g || !same(x, kept) {
			t.Fatalf("%v: %v, then %v", n, kept, x)
		}
		if !slices.Equal(room, before) {
			t.Fatalf("%v was changed to %v", before, room)
		}
	}
	up, down := words("1 2 9 9"), words("3 4 9 9")
	x := api.Ratio{Up: up[:2], Down: down[:2]}
	wantAt(t, x, "1", "3/7")
	wantTurning(t, x, "1", "11/25", "2/25")
	if !slices.Equal(up, words("1 2 9 9")) || !slices.Equal(down, words("3 4 9 9")) {
		t.Errorf("%v, %v", up, down)
	}
}

// spoil writes over a list and the spare room behind it.
func spoil(l []api.Q) {
	l = l[:cap(l)]
	for i := range l {
		l[i] = "spoilt"
	}
}
