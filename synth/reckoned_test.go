package synth

import (
	"math"
	"math/big"
	"math/cmplx"
	"math/rand"
	"slices"
	"strconv"
	"strings"
	"testing"

	"voltaic/api"
	"voltaic/transfer"
)

// pol is a polynomial, and quo a fraction of two, by another reckoner; what they share is left in.
type pol []*big.Rat

type quo struct{ up, down pol }

func rat(q api.Q) *big.Rat {
	x, ok := new(big.Rat).SetString(string(q))
	if !ok {
		panic("no fraction: " + string(q))
	}
	return x
}

func polOf(l []api.Q) pol {
	var out pol
	for _, q := range l {
		out = append(out, rat(q))
	}
	return out.trimmed()
}

func (x pol) trimmed() pol {
	for len(x) > 0 && x[len(x)-1].Sign() == 0 {
		x = x[:len(x)-1]
	}
	return x
}

func (x pol) numbers() []api.Q {
	var out []api.Q
	for _, number := range x {
		out = append(out, api.Q(number.RatString()))
	}
	return out
}

func (x pol) plus(y pol) pol {
	out := make(pol, max(len(x), len(y)))
	for power := range out {
		out[power] = new(big.Rat)
		for _, p := range []pol{x, y} {
			if power < len(p) {
				out[power].Add(out[power], p[power])
			}
		}
	}
	return out.trimmed()
}

func (x pol) times(y pol) pol {
	var out pol
	for i, a := range x {
		row := make(pol, i)
		for k := range row {
			row[k] = new(big.Rat)
		}
		for _, b := range y {
			row = append(row, new(big.Rat).Mul(a, b))
		}
		out = out.plus(row)
	}
	return out.trimmed()
}

func (x pol) scaled(by *big.Rat) pol { return x.times(pol{by}) }

func quoOf(r api.Ratio) quo { return quo{polOf(r.Up), polOf(r.Down)} }

func read(text string) quo { return quoOf(ratio(text)) }

func (x quo) ratio() api.Ratio { return api.Ratio{Up: x.up.numbers(), Down: x.down.numbers()} }

func (x quo) turned() quo { return quo{x.down, x.up} }

func (x quo) plus(y quo) quo {
	return quo{x.up.times(y.down).plus(y.up.times(x.down)), x.down.times(y.down)}
}

func (x quo) scaled(by *big.Rat) quo { return quo{x.up.scaled(by), x.down} }

func (x quo) degree() int { return max(len(x.up), len(x.down)) - 1 }

// same tells whether both are one fraction, however it is written.
func (x quo) same(y quo) bool {
	return slices.Equal(x.up.times(y.down).numbers(), y.up.times(x.down).numbers())
}

// along is what a part along a ladder is seen as, across what one across is.
func along(value api.Q, kind int) quo {
	if kind == api.R {
		return quo{polOf([]api.Q{value}), polOf(words("1"))}
	}
	return quo{polOf([]api.Q{"0", value}), polOf(words("1"))}
}

func across(value api.Q) quo { return along(value, api.L).turned() }

// seenAs is the fraction that a ladder is seen as: from its last value on, parts in a row add up, and parts side by side as 1 over them does.
func seenAs(l []api.Q, kind int) quo {
	rest := quo{}
	for place, value := range slices.Backward(l) {
		last := place == len(l)-1
		switch {
		case place%2 == 1 && last:
			rest = across(value)
		case place%2 == 1:
			rest = rest.turned().plus(across(value).turned()).turned()
		case last:
			rest = along(value, kind)
		default:
			rest = rest.plus(along(value, kind))
		}
	}
	return rest
}

func someAbove(r *rand.Rand) api.Q {
	return api.Q(big.NewRat(int64(1+r.Intn(9)), int64(1+r.Intn(4))).RatString())
}

// someLadder has values of which the first may be 0.
func someLadder(r *rand.Rand, most int) []api.Q {
	var out []api.Q
	for range 1 + r.Intn(most) {
		out = append(out, someAbove(r))
	}
	if len(out) > 1 && r.Intn(3) == 0 {
		out[0] = "0"
	}
	return out
}

func someKind(r *rand.Rand) int { return []int{api.L, api.R}[r.Intn(2)] }

// somePol has numbers of which many are 0, but not the last one.
func somePol(r *rand.Rand, degree int) pol {
	var out pol
	for range degree + 1 {
		out = append(out, big.NewRat(int64(r.Intn(7)-3), int64(1+r.Intn(3))))
	}
	if out[degree].Sign() == 0 {
		out[degree] = big.NewRat(1, 2)
	}
	return out
}

// The values of a ladder are told again, whatever stands above and below the bar besides.
func TestLadderTellsTheValues(t *testing.T) {
	r := rand.New(rand.NewSource(1))
	for range 1500 {
		kind := someKind(r)
		l := someLadder(r, 8)
		z := seenAs(l, kind)
		wantLadder(t, z.ratio(), kind, l)
		shared := somePol(r, r.Intn(api.MaxDegree+1-z.degree()))
		wantLadder(t, quo{z.up.times(shared), z.down.times(shared)}.ratio(), kind, l)
	}
}

// Values of hundreds of digits are told again, too.
func TestLadderOfLongValues(t *testing.T) {
	r := rand.New(rand.NewSource(2))
	for range 10 {
		kind := someKind(r)
		var l []api.Q
		for range 1 + r.Intn(9) {
			digit := func() string { return strconv.Itoa(1 + r.Intn(9)) }
			l = append(l, api.Q(rat(api.Q(digit()+strings.Repeat(digit(), 150)+digit()+"/"+digit()+strings.Repeat(digit(), 150)+digit())).RatString()))
		}
		wantLadder(t, seenAs(l, kind).ratio(), kind, l)
		wantPositive(t, seenAs(l, kind).ratio(), true)
	}
}

// One value that is below 0, or 0 behind the first, and there is no ladder.
func TestLadderWithOneValueThatMayNotBe(t *testing.T) {
	r := rand.New(rand.NewSource(3))
	for range 1000 {
		kind := someKind(r)
		l := someLadder(r, 8)
		place := r.Intn(len(l))
		l[place] = "-" + someAbove(r)
		wantNoLadder(t, seenAs(l, kind).ratio(), kind, api.ErrNone)
	}
}

// ladderByWords goes by the words of the chapter: what is asked, over s or not, is told far out by the last numbers.
func ladderByWords(z quo, kind int) ([]api.Q, api.Errno) {
	s := along("1", api.L)
	var out []api.Q
	for rest, isAlong := z, true; ; isAlong = !isAlong {
		asked, by := rest, s
		if !isAlong {
			asked = rest.turned()
		}
		if isAlong && kind == api.R {
			by = along("1", api.R)
		}
		over := quo{asked.up.times(by.down), asked.down.times(by.up)}
		k := new(big.Rat)
		switch {
		case len(over.up) > len(over.down):
			return nil, api.ErrNone
		case len(over.up) == len(over.down):
			k.Quo(over.up[len(over.up)-1], over.down[len(over.down)-1])
		}
		if k.Sign() < 0 || k.Sign() == 0 && len(out) > 0 {
			return nil, api.ErrNone
		}
		out = append(out, api.Q(k.RatString()))
		left := asked.plus(by.scaled(new(big.Rat).Neg(k)))
		if len(left.up) == 0 {
			return out, api.OK
		}
		if rest = left; !isAlong {
			rest = left.turned()
		}
	}
}

func TestLadderAgainstTheWords(t *testing.T) {
	r := rand.New(rand.NewSource(4))
	told := 0
	for range 5000 {
		z := quo{somePol(r, r.Intn(4)), somePol(r, r.Intn(4))}
		if r.Intn(2) == 0 { // even over odd, or odd over even, as those of L are
			for power := range z.up {
				if power%2 == 0 {
					z.up[power] = new(big.Rat)
				}
			}
			for power := range z.down {
				if power%2 == 1 {
					z.down[power] = new(big.Rat)
				}
			}
			z = quo{z.up.trimmed(), z.down.trimmed()}
			if len(z.up) == 0 || len(z.down) == 0 {
				continue
			}
		}
		for _, kind := range []int{api.L, api.R} {
			want, code := ladderByWords(z, kind)
			if got, e := Ladder(z.ratio(), kind); e != code || !slices.Equal(got, want) {
				t.Fatalf("Ladder(%v, %d): %v, %d, want %v, %d", z.ratio(), kind, got, e, want, code)
			}
			if code == api.OK {
				told++
			}
		}
	}
	if told < 500 {
		t.Errorf("only %d ladders", told)
	}
}

// What Between tells of Build of Ladder of z is z, where z has a ladder that may be built.
func TestBetweenOfBuildOfLadder(t *testing.T) {
	r := rand.New(rand.NewSource(5))
	check := func(z quo, kind int) {
		t.Helper()
		l, e := Ladder(z.ratio(), kind)
		n, code := Build(l, kind)
		seen, f := transfer.Between(n, 1, 0)
		if e != api.OK || code != api.OK || f != (api.Fault{}) || !quoOf(seen).same(z) {
			t.Errorf("%v: Ladder of %d: %v, %d, Build: %v, %d, Between: %v, %v", z.ratio(), kind, l, e, n, code, seen, f)
		}
	}
	for range 150 {
		kind := someKind(r)
		check(seenAs(someLadder(r, api.MaxDegree), kind), kind)
	}
	for _, kind := range []int{api.L, api.R} {
		check(seenAs(someValues(api.MaxDegree), kind), kind)
		check(seenAs(append(words("0"), someValues(api.MaxDegree-1)...), kind), kind)
	}
	for range 3000 {
		z := quo{somePol(r, r.Intn(3)), somePol(r, r.Intn(3))}
		for _, kind := range []int{api.L, api.R} {
			if _, e := Ladder(z.ratio(), kind); e == api.OK {
				check(z, kind)
			}
		}
	}
}

// someNet draws a net of parts of these kinds alone.
func someNet(r *rand.Rand, kinds ...int) api.Net {
	n := api.Net{Nodes: 2 + r.Intn(4)}
	for range n.Nodes - 1 + r.Intn(6) {
		n.Parts = append(n.Parts, part(kinds[r.Intn(len(kinds))], r.Intn(n.Nodes), r.Intn(n.Nodes), someAbove(r)))
	}
	return n
}

// someSeen is what is seen between nodes 1 and 0 of a net of such kinds.
func someSeen(r *rand.Rand, kinds ...int) (z api.Ratio, n api.Net) {
	for {
		n = someNet(r, kinds...)
		z, f := transfer.Between(n, 1, 0)
		if f == (api.Fault{}) && len(z.Up) <= api.MaxDegree+1 && len(z.Down) <= api.MaxDegree+1 {
			return z, n
		}
	}
}

func TestBetweenIsPositive(t *testing.T) {
	r := rand.New(rand.NewSource(6))
	for range 600 {
		z, n := someSeen(r, api.R, api.L, api.C)
		if ok, e := Positive(z); !ok || e != api.OK {
			t.Errorf("Between of %v is %v: Positive: %t, %d", n, z, ok, e)
		}
	}
}

// Nets with as many nodes and parts as may be, of which what is seen isn't too long.
func TestBetweenOfGreatNetsIsPositive(t *testing.T) {
	r := rand.New(rand.NewSource(7))
	n := api.Net{Nodes: api.MaxNodes}
	for i := range api.MaxParts {
		kind := api.R
		if i%4 != 0 {
			kind = api.L + i%2
		}
		n.Parts = append(n.Parts, part(kind, i%n.Nodes, (i+1+i/n.Nodes)%n.Nodes, someAbove(r)))
	}
	for b := range n.Nodes {
		z, f := transfer.Between(n, 1, b)
		if f != (api.Fault{}) || len(z.Up) > api.MaxDegree+1 || len(z.Down) > api.MaxDegree+1 {
			t.Fatalf("Between of %v: %v, %v", n, z, f)
		}
		wantPositive(t, z, true)
	}
}

func TestBetweenOfInductorsAndCapacitorsHasALadder(t *testing.T) {
	r := rand.New(rand.NewSource(8))
	zero := 0
	for range 600 {
		z, n := someSeen(r, api.L, api.C)
		if len(z.Up) == 0 {
			zero++
			wantNoLadder(t, z, api.L, api.ErrForm)
			continue
		}
		l, e := Ladder(z, api.L)
		if e != api.OK || !seenAs(l, api.L).same(quoOf(z)) {
			t.Errorf("Between of %v is %v: Ladder: %v, %d", n, z, l, e)
		}
		wantPositive(t, z, true)
	}
	if zero > 200 {
		t.Errorf("%d are 0", zero)
	}
}

// biquad is (s s + a s + b b) over (s s + c s + d d); it is positive real just if none of these is below 0 and (b - d) squared isn't above a c.
func biquad(a, b, c, d *big.Rat) quo {
	one := big.NewRat(1, 1)
	square := func(x *big.Rat) *big.Rat { return new(big.Rat).Mul(x, x) }
	return quo{pol{square(b), a, one}, pol{square(d), c, one}}
}

func TestPositiveOfSquaresOverSquares(t *testing.T) {
	r := rand.New(rand.NewSource(9))
	seen := map[int]int{}
	some := func(least int) *big.Rat { return big.NewRat(int64(least+r.Intn(9-least)), int64(1+r.Intn(3))) }
	for range 2000 {
		a, b, c, d := some(0), some(0), some(0), some(0)
		off := new(big.Rat).Sub(b, d)
		off.Mul(off, off)
		if r.Intn(3) == 0 && a.Sign() > 0 {
			c.Quo(off, a)
		}
		how := new(big.Rat).Mul(a, c).Cmp(off)
		seen[how]++
		wantPositive(t, biquad(a, b, c, d).ratio(), how >= 0)
	}
	if seen[-1] < 300 || seen[0] < 300 || seen[1] < 300 {
		t.Errorf("only %v", seen)
	}
}

// Of sums of 1/(s + p), with a number more, the real part falls from 0 on to this number; of sums of s/(s + p) it rises from it; of L and C alone it is nothing else.
func TestPositiveOfSumsWithANumberMore(t *testing.T) {
	r := rand.New(rand.NewSource(10))
	for range 400 {
		sum := read("|1")
		which := r.Intn(3)
		for range 1 + r.Intn(5) {
			p := someAbove(r)
			term := [...]string{"1|" + string(p) + " 1", "0 1|" + string(p) + " 1", "0 1|" + string(p) + " 0 1"}[which]
			sum = sum.plus(read(term).scaled(rat(someAbove(r))))
		}
		for more, want := range map[api.Q]bool{"0": true, "1/1000000": true, "3": true, "-1/1000000": false} {
			wantPositive(t, sum.plus(quo{pol{rat(more)}, pol{rat("1")}}).ratio(), want)
			wantPositive(t, sum.plus(quo{pol{rat(more)}, pol{rat("1")}}).turned().ratio(), want)
		}
		wantPositive(t, sum.scaled(rat("-1")).ratio(), false)
	}
}

// touching is positive real, and its real part is 0 where w w is u.
func touching(r *rand.Rand, u *big.Rat) quo {
	a, b := rat(someAbove(r)), rat(someAbove(r))
	d := new(big.Rat).Quo(u, b)
	off := new(big.Rat).Sub(b, d)
	if off.Sign() == 0 { // a pole would lie where it is to be 0
		return touching(r, u)
	}
	return biquad(a, b, off.Mul(off, off).Quo(off, a), d)
}

// Where the real parts of all terms are 0 at one place, so is that of the sum: with a little less it isn't positive real.
func TestPositiveOfSumsThatTouchZero(t *testing.T) {
	r := rand.New(rand.NewSource(11))
	for range 150 {
		u := rat(someAbove(r))
		sum := touching(r, u)
		for range r.Intn(5) {
			sum = sum.plus(touching(r, u).scaled(rat(someAbove(r))))
		}
		wantPositive(t, sum.ratio(), true)
		wantPositive(t, sum.turned().ratio(), true)
		wantPositive(t, sum.plus(read("-1/1000000000|1")).ratio(), false)
		wantPositive(t, sum.plus(read("1/1000000000|1")).ratio(), true)
		if sum.degree() < api.MaxDegree {
			wantPositive(t, sum.plus(read("0 1|1")).ratio(), true)
			wantPositive(t, sum.plus(read("0 -1/1000000000|1")).ratio(), false)
		}
	}
}

// somePositive is what is seen between nodes, or a fraction that touches 0.
func somePositive(r *rand.Rand) quo {
	switch r.Intn(4) {
	case 0:
		return touching(r, rat(someAbove(r)))
	case 1:
		kind := someKind(r)
		return seenAs(someLadder(r, 5), kind)
	}
	z, _ := someSeen(r, api.R, api.L, api.C)
	return quoOf(z)
}

func TestSumsOfPositiveOnesAndOneOverThem(t *testing.T) {
	r := rand.New(rand.NewSource(12))
	for range 400 {
		x, y := somePositive(r), somePositive(r)
		wantPositive(t, x.ratio(), true)
		if len(x.up) > 0 {
			wantPositive(t, x.turned().ratio(), true)
		}
		if sum := x.plus(y); sum.degree() <= api.MaxDegree {
			wantPositive(t, sum.ratio(), true)
			if len(sum.up) > 0 {
				wantPositive(t, sum.turned().ratio(), true)
			}
		}
	}
}

// Whatever z is: 1 over it, it at 1/s, at 2 s, and times 3 are positive real just if z is.
func TestWhatIsPositiveTogether(t *testing.T) {
	r := rand.New(rand.NewSource(13))
	seen := map[bool]int{}
	for i := range 4000 {
		z := quo{somePol(r, r.Intn(4)), somePol(r, r.Intn(4))}
		if i%3 == 0 {
			z = somePositive(r)
			if z.up = slices.Clone(z.up); len(z.up) == 0 {
				continue
			}
			place := r.Intn(len(z.up))
			z.up[place] = new(big.Rat).Mul(z.up[place], big.NewRat(int64(r.Intn(9)), 4))
			if z.up = z.up.trimmed(); len(z.up) == 0 {
				continue
			}
		}
		want, e := Positive(z.ratio())
		if e != api.OK {
			t.Fatalf("Positive(%v): %d", z.ratio(), e)
		}
		seen[want]++
		wantPositive(t, z.turned().ratio(), want)
		wantPositive(t, z.scaled(rat("3")).ratio(), want)
		wantPositive(t, z.stretched(rat("2")).ratio(), want)
		wantPositive(t, z.atTurned().ratio(), want)
		if want {
			wantPositive(t, z.scaled(rat("-1")).ratio(), false)
		}
	}
	if seen[true] < 300 || seen[false] < 300 {
		t.Errorf("only %v", seen)
	}
}

// stretched is x at s times a number.
func (x quo) stretched(by *big.Rat) quo {
	stretch := func(p pol) pol {
		var out pol
		power := big.NewRat(1, 1)
		for _, number := range p {
			out = append(out, new(big.Rat).Mul(number, power))
			power = new(big.Rat).Mul(power, by)
		}
		return out
	}
	return quo{stretch(x.up), stretch(x.down)}
}

// atTurned is x at 1/s: both with their numbers the other way round, as many of them.
func (x quo) atTurned() quo {
	turn := func(p pol) pol {
		out := slices.Clone(p)
		for len(out) <= x.degree() {
			out = append(out, new(big.Rat))
		}
		slices.Reverse(out)
		return out.trimmed()
	}
	return quo{turn(x.up), turn(x.down)}
}

func (x pol) at(s complex128) complex128 {
	out := complex128(0)
	for _, number := range slices.Backward(x) {
		f, _ := number.Float64()
		out = out*s + complex(f, 0)
	}
	return out
}

// isBelowSomewhere looks, by floats, for a place on the right where the real part of x is surely below 0.
func (x quo) isBelowSomewhere() bool {
	for i := range 120 {
		far := math.Pow(10, float64(i-60)/20)
		for _, turn := range []float64{0, 0.2, 0.4, 0.6, 0.8, 0.9, 0.95, 0.98, 0.99, 0.995, 0.999, 0.9999, 0.999999} {
			s := cmplx.Rect(far, turn*math.Pi/2)
			if z := x.up.at(s) / x.down.at(s); real(z) < -1e-7*cmplx.Abs(z) {
				return true
			}
		}
	}
	return false
}

// By the words of the chapter: what is positive real is below 0 nowhere on the right, and what isn't is somewhere, or has no value there; nearly always so that floats tell it.
func TestPositiveAgainstFloats(t *testing.T) {
	r := rand.New(rand.NewSource(14))
	found, missed, above := 0, 0, 0
	for range 6000 {
		z := quo{somePol(r, r.Intn(4)), somePol(r, r.Intn(4))}
		for _, p := range []pol{z.up, z.down} { // hardly one with signs of both kinds is positive real
			for power := range p {
				if r.Intn(8) > 0 {
					p[power] = new(big.Rat).Abs(p[power])
				}
			}
		}
		got, e := Positive(z.ratio())
		switch below := z.isBelowSomewhere(); {
		case e != api.OK:
			t.Fatalf("Positive(%v): %d", z.ratio(), e)
		case got && below:
			t.Errorf("Positive(%v), but it is below 0 on the right", z.ratio())
		case got:
			above++
		case below:
			found++
		default:
			missed++
		}
	}
	if above < 1000 || found < 1000 || missed > found/100 {
		t.Errorf("%d are positive, %d aren't, and %d seem to be", above, found, missed)
	}
}

// Texts of all kinds: each call ends, and tells an answer or an error.
func TestAnyTexts(t *testing.T) {
	r := rand.New(rand.NewSource(15))
	pieces := []string{"0", "1", "-", "/", "7", "00", "x", "", "99999999999999999999", ".", "-3/4", "5/6"}
	list := func() []api.Q {
		var out []api.Q
		for range r.Intn(api.MaxDegree + 3) {
			var text string
			for range r.Intn(4) {
				text += pieces[r.Intn(len(pieces))]
			}
			out = append(out, api.Q(text))
		}
		return out
	}
	for range 3000 {
		z, kind := api.Ratio{Up: list(), Down: list()}, r.Intn(5)-1
		ok, e := Positive(z)
		l, code := Ladder(z, kind)
		if e != api.OK && (ok || code != e) || code != api.OK && l != nil || code == api.OK && len(l) == 0 {
			t.Errorf("%q: %t, %d, %v, %d", z, ok, e, l, code)
		}
		n, code := Build(z.Up, kind)
		if code != api.OK && (n.Nodes != 0 || n.Parts != nil) || code == api.OK && len(n.Parts) == 0 {
			t.Errorf("Build(%q): %v, %d", z.Up, n, code)
		}
	}
}
