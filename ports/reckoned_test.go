package ports

import (
	"math/big"
	"math/rand"
	"slices"
	"testing"

	"voltaic/api"
	"voltaic/transfer"
)

func rat(q api.Q) *big.Rat {
	x, ok := new(big.Rat).SetString(string(q))
	if !ok || x.RatString() != string(q) {
		panic("not in lowest terms: " + string(q))
	}
	return x
}

func whole(n int) *big.Rat         { return big.NewRat(int64(n), 1) }
func plus(x, y *big.Rat) *big.Rat  { return new(big.Rat).Add(x, y) }
func minus(x, y *big.Rat) *big.Rat { return new(big.Rat).Sub(x, y) }
func times(x, y *big.Rat) *big.Rat { return new(big.Rat).Mul(x, y) }
func over(x, y *big.Rat) *big.Rat  { return new(big.Rat).Quo(x, y) }

const fewestSeen = 100

// A fraction with no more powers than these are enough for is known by its values at so many strange places.
const places = 41

// At such places, none of which the two-ports here know of, one is as it is for s itself, but by chance.
func strange(i int) *big.Rat { return big.NewRat(int64(1000003+7919*i), 611953) }

func polyAt(l []api.Q, s *big.Rat) *big.Rat {
	out := whole(0)
	for _, q := range slices.Backward(l) {
		out = plus(times(out, s), rat(q))
	}
	return out
}

func portAt(p api.Port, s *big.Rat) [4]*big.Rat {
	var out [4]*big.Rat
	for i, r := range p.M {
		out[i] = over(polyAt(r.Up, s), polyAt(r.Down, s))
	}
	return out
}

// book has the formulas by which books tell one kind as another: what stands above the bar, and the one that is below all four bars.
func book(from, to int, m [4]*big.Rat) (up [4]*big.Rat, bar *big.Rat) {
	not := func(x *big.Rat) *big.Rat { return minus(whole(0), x) }
	one, spread := whole(1), minus(times(m[0], m[3]), times(m[1], m[2]))
	switch [2]int{from, to} {
	case [2]int{z, y}, [2]int{y, z}:
		return [4]*big.Rat{m[3], not(m[1]), not(m[2]), m[0]}, spread
	case [2]int{z, h}, [2]int{h, z}:
		return [4]*big.Rat{spread, m[1], not(m[2]), one}, m[3]
	case [2]int{z, a}, [2]int{a, z}:
		return [4]*big.Rat{m[0], spread, one, m[3]}, m[2]
	case [2]int{y, h}, [2]int{h, y}:
		return [4]*big.Rat{one, not(m[1]), m[2], spread}, m[0]
	case [2]int{y, a}:
		return [4]*big.Rat{not(m[3]), not(one), not(spread), not(m[0])}, m[2]
	case [2]int{a, y}:
		return [4]*big.Rat{m[3], not(spread), not(one), m[0]}, m[1]
	case [2]int{h, a}:
		return [4]*big.Rat{not(spread), not(m[0]), not(m[3]), not(one)}, m[2]
	case [2]int{a, h}:
		return [4]*big.Rat{m[1], spread, not(one), m[2]}, m[3]
	}
	return m, one
}

// converted is nil where it can't be.
func converted(p api.Port, kind int, s *big.Rat) *[4]*big.Rat {
	up, bar := book(p.Kind, kind, portAt(p, s))
	if bar.Sign() == 0 {
		return nil
	}
	for i := range up {
		up[i] = over(up[i], bar)
	}
	return &up
}

// isLowest tells whether a fraction is told as DOC asks: by Euclid's way.
func isLowest(r api.Ratio) bool {
	if len(r.Down) == 0 || r.Down[len(r.Down)-1] != "1" || len(r.Up) > 0 && rat(r.Up[len(r.Up)-1]).Sign() == 0 {
		return false
	}
	numbers := func(l []api.Q) []*big.Rat {
		var out []*big.Rat
		for _, q := range l {
			out = append(out, rat(q))
		}
		return out
	}
	x, y := numbers(r.Up), numbers(r.Down)
	for len(y) > 0 {
		for len(x) >= len(y) {
			by := over(x[len(x)-1], y[len(y)-1])
			for i := range y {
				x[len(x)-len(y)+i] = minus(x[len(x)-len(y)+i], times(by, y[i]))
			}
			for len(x) > 0 && x[len(x)-1].Sign() == 0 {
				x = x[:len(x)-1]
			}
		}
		x, y = y, x
	}
	return len(x) == 1
}

// is tells whether p has, at all strange places, the values that are told.
func is(p api.Port, values func(s *big.Rat) [4]*big.Rat) bool {
	for _, r := range p.M {
		if !isLowest(r) || len(r.Up)+len(r.Down) > places/2 {
			return false
		}
	}
	for i := range places {
		got, want := portAt(p, strange(i)), values(strange(i))
		for k := range got {
			if got[k].Cmp(want[k]) != 0 {
				return false
			}
		}
	}
	return true
}

// somePort draws one of few numbers, so that what divides is often 0, and every other one works both ways alike.
func somePort(r *rand.Rand) api.Port {
	some := func() api.Ratio {
		list := func(most int) []api.Q {
			var out []api.Q
			for range r.Intn(most + 1) {
				out = append(out, api.Q(big.NewRat(int64(r.Intn(5)-2), int64(1+r.Intn(2))).RatString()))
			}
			return out
		}
		if r.Intn(3) == 0 {
			return api.Ratio{Up: list(1), Down: words("1")}
		}
		return api.Ratio{Up: list(2), Down: append(list(1), "1")}
	}
	p := api.Port{Kind: kinds[r.Intn(len(kinds))]}
	for i := range p.M {
		p.M[i] = some()
	}
	if r.Intn(2) == 0 {
		return evened(p)
	}
	return p
}

// evened is a two-port like p that works both ways alike.
func evened(p api.Port) api.Port {
	switch p.Kind {
	case h:
		opposite := api.Ratio{Down: p.M[1].Down}
		for _, q := range p.M[1].Up {
			opposite.Up = append(opposite.Up, api.Q(minus(whole(0), rat(q)).RatString()))
		}
		p.M[2] = opposite
	case a:
		// One part along, or one across.
		p.M[0], p.M[1+len(p.M[0].Up)%2], p.M[3] = ratio("1"), ratio(""), ratio("1")
	default:
		p.M[2] = p.M[1]
	}
	return p
}

func TestConvertAgainstBooks(t *testing.T) {
	r := rand.New(rand.NewSource(1))
	told, not := map[[2]int]int{}, map[[2]int]int{}
	for range 400 {
		p := somePort(r)
		for _, kind := range kinds {
			pair := [2]int{p.Kind, kind}
			got, f := Convert(p, kind)
			if converted(p, kind, strange(0)) == nil {
				wantFault(t, "Convert", got, f, api.ErrNone, 0)
				not[pair]++
				continue
			}
			if f != (api.Fault{}) || got.Kind != kind || !is(got, func(s *big.Rat) [4]*big.Rat { return *converted(p, kind, s) }) {
				t.Fatalf("Convert(%v, %d): %v, %v", p, kind, got, f)
			}
			told[pair]++
		}
	}
	for _, from := range kinds {
		for _, to := range kinds {
			if pair := [2]int{from, to}; told[pair] < fewestSeen/4 || from != to && not[pair] < fewestSeen/20 {
				t.Errorf("%v: only %d are told, and %d can't be", pair, told[pair], not[pair])
			}
		}
	}
}

// P8.4: there and back, over a third kind, too.
func TestConvertThereAndBack(t *testing.T) {
	r := rand.New(rand.NewSource(2))
	seen := 0
	for range 400 {
		p := somePort(r)
		lowest, _ := Convert(p, p.Kind)
		for _, kind := range kinds {
			there, f := Convert(p, kind)
			if f.Code != api.OK {
				continue
			}
			back, f := Convert(there, p.Kind)
			wantPort(t, "back", back, f, lowest)
			for _, third := range kinds {
				one, f := Convert(p, third)
				other, g := Convert(there, third)
				if f != g || !samePort(one, other) {
					t.Fatalf("%v as %d is %v, %v; over %d it is %v, %v", p, third, one, f, kind, other, g)
				}
			}
			seen++
		}
	}
	if seen < 10*fewestSeen {
		t.Errorf("only %d seen", seen)
	}
}

func TestJoinedAgainstBooks(t *testing.T) {
	r := rand.New(rand.NewSource(3))
	added := func(x, y [4]*big.Rat) [4]*big.Rat {
		for i := range x {
			x[i] = plus(x[i], y[i])
		}
		return x
	}
	multiplied := func(x, y [4]*big.Rat) [4]*big.Rat {
		at := func(row, column int) *big.Rat {
			return plus(times(x[2*row], y[column]), times(x[2*row+1], y[2+column]))
		}
		return [4]*big.Rat{at(0, 0), at(0, 1), at(1, 0), at(1, 1)}
	}
	for _, join := range []struct {
		what string
		of   func(a, b api.Port) (api.Port, api.Fault)
		kind int
		by   func(x, y [4]*big.Rat) [4]*big.Rat
	}{{"Row", Row, a, multiplied}, {"Series", Series, z, added}, {"Parallel", Parallel, y, added}} {
		told, none := 0, [2]int{}
		for range 300 {
			p, q := somePort(r), somePort(r)
			got, f := join.of(p, q)
			first, second := converted(p, join.kind, strange(0)), converted(q, join.kind, strange(0))
			if first == nil || second == nil {
				at := 0
				if first != nil {
					at = 1
				}
				wantFault(t, join.what, got, f, api.ErrNone, at)
				none[at]++
				continue
			}
			values := func(s *big.Rat) [4]*big.Rat { return join.by(*converted(p, join.kind, s), *converted(q, join.kind, s)) }
			if f != (api.Fault{}) || got.Kind != join.kind || !is(got, values) {
				t.Fatalf("%s(%v, %v): %v, %v", join.what, p, q, got, f)
			}
			told++
		}
		if told < fewestSeen || min(none[0], none[1]) < fewestSeen/10 {
			t.Errorf("%s: only %d are told, and %v can't be", join.what, told, none)
		}
	}
}

// P8.4: of a two-port it is the same as of it as any other kind; and Row keeps it.
func TestSameWhateverTheKind(t *testing.T) {
	r := rand.New(rand.NewSource(4))
	told := map[bool]int{}
	rows := 0
	var last api.Port
	lastSame := false
	for range 500 {
		p := somePort(r)
		same, f := Same(p)
		if f != (api.Fault{}) {
			t.Fatalf("Same(%v): %v", p, f)
		}
		for _, kind := range kinds {
			if q, f := Convert(p, kind); f.Code == api.OK {
				wantSame(t, q, same)
				told[same]++
			}
		}
		if both, f := Row(last, p); same && lastSame && f.Code == api.OK {
			wantSame(t, both, true)
			rows++
		}
		last, lastSame = p, same
	}
	if told[true] < 5*fewestSeen || told[false] < 5*fewestSeen || rows < fewestSeen/4 {
		t.Errorf("only %v are told, and %d rows", told, rows)
	}
}

// someNet draws a net with which nothing is wrong; its values are few, so that parts often cancel each other.
func someNet(r *rand.Rand, nodes int, withLed bool) api.Net {
	n := api.Net{Nodes: nodes}
	for range nodes - 1 + r.Intn(6) {
		p := part(api.R+r.Intn(3), r.Intn(n.Nodes), r.Intn(n.Nodes), api.Q(big.NewRat(int64(1+r.Intn(4)), int64(1+r.Intn(3))).RatString()))
		if r.Intn(3) == 0 {
			p.Kind = api.V + r.Intn(4)
		}
		if p.Kind >= api.E && !withLed {
			p.Kind -= 2
		}
		if p.Kind >= api.E {
			p.C, p.D = r.Intn(n.Nodes), r.Intn(n.Nodes)
		}
		n.Parts = append(n.Parts, p)
	}
	return n
}

// pushed is, by the words of the chapter, the net with V and I at 0 and one ampere pushed from 0 to a node.
func pushed(n api.Net, to int) api.Net {
	out := api.Net{Nodes: n.Nodes}
	for _, p := range n.Parts {
		if p.Kind == api.V || p.Kind == api.I {
			p.Value = "0"
		}
		out.Parts = append(out.Parts, p)
	}
	out.Parts = append(out.Parts, part(api.I, 0, to, "1"))
	return out
}

func TestOfAgainstVolts(t *testing.T) {
	r := rand.New(rand.NewSource(5))
	told := map[api.Errno]int{}
	uneven := 0
	for range 1000 {
		n := someNet(r, 3+r.Intn(3), true)
		one := 1 + r.Intn(n.Nodes-1)
		other := 1 + r.Intn(n.Nodes-1)
		if one == other {
			continue
		}
		got, f := Of(n, one, other)
		first, g := transfer.Volts(pushed(n, one))
		second, next := transfer.Volts(pushed(n, other))
		if g.Code == api.OK {
			g = next
		}
		told[g.Code]++
		if g.Code != api.OK {
			wantFault(t, "Of", got, f, g.Code, 0)
			continue
		}
		want := api.Port{Kind: z, M: [4]api.Ratio{first[one], second[one], first[other], second[other]}}
		wantPort(t, "Of", got, f, want)
		if !sameRatio(want.M[1], want.M[2]) {
			uneven++
		}
	}
	for _, code := range []api.Errno{api.OK, api.ErrNone, api.ErrFree} {
		if told[code] < fewestSeen/2 {
			t.Errorf("%d is told %d times only", code, told[code])
		}
	}
	if uneven < fewestSeen/4 {
		t.Errorf("only %d don't work both ways alike", uneven)
	}
}

// P8.4: without E and G it works both ways alike.
func TestOfWithoutWhatIsLed(t *testing.T) {
	r := rand.New(rand.NewSource(6))
	seen := 0
	for range 500 {
		n := someNet(r, 3+r.Intn(3), false)
		if p, f := Of(n, 1, 2); f.Code == api.OK {
			wantSame(t, p, true)
			seen++
		}
	}
	if seen < fewestSeen {
		t.Errorf("only %d seen", seen)
	}
}

// besides is the second net beside the first; nodes of both are the same where second's node is told so, and the ground always.
func besides(n, second api.Net, same map[int]int) api.Net {
	out := api.Net{Nodes: n.Nodes, Parts: slices.Clone(n.Parts)}
	to := make([]int, second.Nodes)
	for node := 1; node < second.Nodes; node++ {
		if at, ok := same[node]; ok {
			to[node] = at
			continue
		}
		to[node] = out.Nodes
		out.Nodes++
	}
	for _, p := range second.Parts {
		out.Parts = append(out.Parts, api.Part{Kind: p.Kind, A: to[p.A], B: to[p.B], C: to[p.C], D: to[p.D], Value: p.Value})
	}
	return out
}

// Nets in a row, and side by side: what they are as one net is what comes of their two-ports. From node 1 to node 2 each.
func TestNetsThatAreJoined(t *testing.T) {
	r := rand.New(rand.NewSource(7))
	rows, sides := 0, 0
	for range 600 {
		n, m := someNet(r, 3+r.Intn(2), true), someNet(r, 3+r.Intn(2), true)
		if len(n.Parts)+len(m.Parts) > api.MaxParts {
			continue
		}
		p, f := Of(n, 1, 2)
		q, g := Of(m, 1, 2)
		if f.Code != api.OK || g.Code != api.OK {
			continue
		}
		// The second's node 1 is the first's node 2, and its node 2 comes next.
		inRow, f := Of(besides(n, m, map[int]int{1: 2}), 1, n.Nodes)
		row, g := Row(p, q)
		if f.Code == api.OK && g.Code == api.OK {
			got, f := Convert(row, z)
			wantPort(t, "in a row", got, f, inRow)
			rows++
		}
		beside, f := Of(besides(n, m, map[int]int{1: 1, 2: 2}), 1, 2)
		both, g := Parallel(p, q)
		if f.Code == api.OK && g.Code == api.OK {
			got, f := Convert(both, z)
			wantPort(t, "side by side", got, f, beside)
			sides++
		}
	}
	if rows < fewestSeen/4 || sides < fewestSeen/4 {
		t.Errorf("only %d rows, and %d side by side", rows, sides)
	}
}

// spoil writes over a list and the spare room behind it.
func spoil(l []api.Q) {
	l = l[:cap(l)]
	for i := range l {
		l[i] = "spoilt"
	}
}

func copied(p api.Port) api.Port {
	for i, r := range p.M {
		p.M[i] = api.Ratio{Up: slices.Clone(r.Up), Down: slices.Clone(r.Down)}
	}
	return p
}

// wantOwn asks that no list of what is answered is another one's, nor kept, nor one that was handed in.
func wantOwn(t *testing.T, what string, answer func() api.Port, in ...api.Port) {
	t.Helper()
	want := copied(answer())
	var before []api.Port
	for _, p := range in {
		before = append(before, copied(p))
	}
	lists := func(p api.Port) [8][]api.Q {
		m := p.M
		return [8][]api.Q{m[0].Up, m[0].Down, m[1].Up, m[1].Down, m[2].Up, m[2].Down, m[3].Up, m[3].Down}
	}
	for i := range 8 {
		got := answer()
		spoil(lists(got)[i])
		for k, l := range lists(got) {
			if k != i && !slices.Equal(l, lists(want)[k]) {
				t.Fatalf("%s: lists %d and %d share memory", what, i, k)
			}
		}
	}
	if !samePort(answer(), want) || !slices.EqualFunc(in, before, samePort) {
		t.Fatalf("%s: something is kept, or was changed", what)
	}
}

// spare has room behind all lists, with words in it.
func spare(p api.Port) api.Port {
	room := func(l []api.Q) []api.Q { return append(slices.Clone(l), "8", "9") }
	for i, r := range p.M {
		p.M[i] = api.Ratio{Up: room(r.Up), Down: room(r.Down)}
	}
	return p
}

// cut is p without that room.
func cut(p api.Port) api.Port {
	for i, r := range p.M {
		p.M[i] = api.Ratio{Up: r.Up[:len(r.Up)-2], Down: r.Down[:len(r.Down)-2]}
	}
	return p
}

func TestNothingIsShared(t *testing.T) {
	r := rand.New(rand.NewSource(8))
	joins := []func(a, b api.Port) (api.Port, api.Fault){Row, Series, Parallel}
	for range 60 {
		p, q := spare(somePort(r)), spare(somePort(r))
		for _, kind := range kinds {
			wantOwn(t, "Convert", func() api.Port { out, _ := Convert(cut(p), kind); return out }, p)
		}
		for _, join := range joins {
			wantOwn(t, "joined", func() api.Port { out, _ := join(cut(p), cut(q)); return out }, p, q)
			wantOwn(t, "joined with itself", func() api.Port { out, _ := join(cut(p), cut(p)); return out }, p)
		}
		kept := copied(p)
		if Same(cut(p)); !samePort(p, kept) {
			t.Fatalf("%v was changed to %v", kept, p)
		}
		n := someNet(r, 4, true)
		room := append(slices.Clone(n.Parts), part(77, 7, 7, "7"), part(78, 8, 8, "8"))
		before := slices.Clone(room)
		n.Parts = room[:len(n.Parts)]
		wantOwn(t, "Of", func() api.Port { out, _ := Of(n, 1, 3); return out })
		if !slices.Equal(room, before) {
			t.Fatalf("%v was changed to %v", before, room)
		}
	}
}

// Lists that have nothing in them may be nil or empty.
func TestNilAndEmpty(t *testing.T) {
	p := portOf(y, "1", "", "", "2")
	q := copied(p)
	q.M[1].Up, q.M[2].Up = []api.Q{}, []api.Q{}
	for _, kind := range kinds {
		one, f := Convert(p, kind)
		other, g := Convert(q, kind)
		if f != g || !samePort(one, other) {
			t.Errorf("%v, %v, and %v, %v", one, f, other, g)
		}
	}
}
