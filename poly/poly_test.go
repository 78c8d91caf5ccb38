package poly

import (
	"math/rand"
	"slices"
	"strconv"
	"strings"
	"testing"

	"voltaic/api"
	"voltaic/frac"
	"voltaic/solve"
)

// words are the numbers of a text.
func words(text string) []api.Q {
	var out []api.Q
	for _, w := range strings.Fields(text) {
		out = append(out, api.Q(w))
	}
	return out
}

func p(text string) P { return Of(words(text)) }

func wantP(t *testing.T, what string, got P, want string) {
	t.Helper()
	if !slices.Equal(got.Q(), words(want)) {
		t.Errorf("%s: %v, want %s", what, got.Q(), want)
	}
}

func TestPolynomials(t *testing.T) {
	wantP(t, "nothing", Of(nil), "")
	wantP(t, "noughts at the end", p("1 0 2/4 0 x 1/0"), "1 0 1/2")
	wantP(t, "noughts alone", p("0 -0 0/3"), "")
	wantP(t, "plus", p("1 2 3").Plus(p("1/2 -2")), "3/2 0 3")
	wantP(t, "plus its opposite", p("1 2").Plus(p("1 2").Opposite()), "")
	wantP(t, "minus", p("1 2 3").Minus(p("1 1 3")), "0 1")
	wantP(t, "times", p("1 1").Times(p("-1 0 1/2")), "-1 -1 1/2 1/2")
	wantP(t, "times 0", p("1 1").Times(nil), "")
	wantP(t, "0 times", P(nil).Times(p("1 1")), "")
	wantP(t, "scaled", p("1 0 -3").Scaled(frac.Of("-2/3")), "-2/3 0 2")
	wantP(t, "scaled by 0", p("1 2").Scaled(frac.F{}), "")
	wantP(t, "plain", p("1/2 0 -3/4").Plain(), "2 0 -3")
	wantP(t, "plain already", p("-5 3").Plain(), "-5 3")
	wantP(t, "plain 0", P(nil).Plain(), "")
	if p("1 2 3").Last().Q() != "3" || P(nil).Last().Q() != "0" {
		t.Error("which number is the last?")
	}
}

func TestPolynomialsParted(t *testing.T) {
	for _, c := range []struct{ x, y, often, rest string }{
		{"", "1 1", "", ""},
		{"1", "1 1", "", "1"},
		{"-1 0 1", "1 1", "-1 1", ""},
		{"1 0 1", "1 1", "-1 1", "2"},
		{"1 2 3", "2", "1/2 1 3/2", ""},
		{"0 0 0 1", "1 0 2", "0 1/2", "0 -1/2"},
	} {
		often, rest := p(c.x).Parted(p(c.y))
		if !slices.Equal(often.Q(), words(c.often)) || !slices.Equal(rest.Q(), words(c.rest)) {
			t.Errorf("%s parted by %s: %v, %v, want %s, %s", c.x, c.y, often.Q(), rest.Q(), c.often, c.rest)
		}
	}
}

func TestPolynomialsWithoutDivisors(t *testing.T) {
	wantP(t, "without a number", p("1 -2 3").Without(p("2")), "1/2 -1 3/2")
	wantP(t, "without a polynomial", p("-1 0 1").Without(p("1/2 1/2")), "-2 2")
	wantP(t, "without itself", p("5 7").Without(p("5 7")), "1")
	wantP(t, "0", P(nil).Without(p("5 7")), "")
}

func TestBarOfPolynomials(t *testing.T) {
	for text, want := range map[string]api.Q{"": "1", "3 0 -4": "1", "1/2 0 1/3": "6", "3/4 5/6 -1/12": "12"} {
		if got := p(text).bar(); got.Q() != want {
			t.Errorf("%s: %s, want %s", text, got.Q(), want)
		}
	}
	wantP(t, "times, of fractions", p("1/2 2/3").Times(p("3/5 0 -6/7")), "3/10 2/5 -3/7 -4/7")
}

func TestValue(t *testing.T) {
	if got := Value(solve.Fractions(), p("1 -2 1/3"), frac.Of("3/2")); got.Q() != "-5/4" {
		t.Error(got.Q())
	}
	if got := Value(solve.Complexes(), p("1 -2 1/3"), frac.Z{Im: frac.Of("3")}); got.Z() != (api.Z{Re: "-2", Im: "-6"}) {
		t.Error(got.Z())
	}
	if got := Value(solve.Fractions(), nil, frac.Of("3/2")); !got.IsZero() {
		t.Error(got.Q())
	}
}

func TestCommon(t *testing.T) {
	for _, c := range []struct{ x, y, want string }{
		{"", "", ""},
		{"", "1/2 -1/2", "1 -1"},
		{"2 4", "", "1 2"},
		{"6", "4", "1"},
		{"6", "4 4", "1"},
		{"1 2 1", "-1 0 1", "1 1"},
		{"1 0 1", "1 1", "1"},
		{"0 0 3", "0 1/5 7", "0 1"},
		{"-1 -2", "1/3 1 2/3", "1 2"},
		// What is common at ten to whatever power, but isn't of the polynomials.
		{"0 1", "10000000000000000000000000000000000000000 1", "1"},
		{"0 0 1", "0 1000000000000000000000000000000000000000000000000000000000000000000000000000000000000000000000000000000000000000000000000000 1", "0 1"},
	} {
		got := Common(p(c.x), p(c.y))
		if back := Common(p(c.y), p(c.x)); !slices.Equal(got.Q(), words(c.want)) && !slices.Equal(got.Opposite().Q(), words(c.want)) || !slices.Equal(back.Q(), got.Q()) {
			t.Errorf("Common of %s and %s: %v, and %v the other way round, want %s", c.x, c.y, got.Q(), back.Q(), c.want)
		}
	}
}

// euclid is the greatest common divisor by Euclid's way; its last number is 1.
func euclid(x, y P) P {
	for !y.IsZero() {
		_, rest := x.Parted(y)
		x, y = y, rest
	}
	if x.IsZero() {
		return nil
	}
	return x.Scaled(frac.Of("1").Over(x.Last()))
}

func someP(r *rand.Rand, most int) P {
	var l []api.Q
	for range r.Intn(most + 1) {
		l = append(l, api.Q(strconv.Itoa(r.Intn(9)-4)+"/"+strconv.Itoa(1+r.Intn(3))))
	}
	return Of(l)
}

func TestCommonAgainstEuclid(t *testing.T) {
	r := rand.New(rand.NewSource(1))
	longer := 0
	for range 3000 {
		shared := someP(r, 5)
		x, y := shared.Times(someP(r, 6)), shared.Times(someP(r, 6))
		got, want := Common(x, y), euclid(x, y)
		if got.IsZero() != want.IsZero() || !slices.Equal(want.Q(), got.Scaled(frac.Of("1").Over(got.Last())).Q()) || !slices.Equal(got.Plain().Q(), got.Q()) {
			t.Fatalf("Common of %v and %v: %v, want %v", x.Q(), y.Q(), got.Q(), want.Q())
		}
		longer += min(1, len(want)/2)
	}
	if longer < 1000 {
		t.Errorf("only %d have common divisors", longer)
	}
}

// Polynomials that are told apart by what is left of their numbers, and those that aren't: their last numbers, or what is below a bar, are a multiple of the prime, or they are the same but for multiples of it.
func TestCommonWherePrimeIsZero(t *testing.T) {
	for _, c := range []struct{ x, y, want string }{
		{"1 4294967291", "1 1", "1"},
		{"1 1", "1 4294967291", "1"},
		{"1 4294967292 4294967291", "1 1", "1 1"},
		{"1 4294967292 4294967291", "3 12884901874 4294967291", "1 4294967291"},
		{"1/4294967291 1", "1 4294967291", "1 4294967291"},
		{"1/4294967291 1", "1 1", "1"},
		{"1 1", "4294967292 1", "1"},
		{"1 2 1", "4294967292 4294967293 1", "1 1"},
		{"-4294967291 1", "0 1", "1"},
		{"-4294967291 1", "0 -4294967291 1", "-4294967291 1"},
	} {
		got := Common(p(c.x), p(c.y))
		if !slices.Equal(got.Q(), words(c.want)) && !slices.Equal(got.Opposite().Q(), words(c.want)) {
			t.Errorf("Common of %s and %s: %v, want %s", c.x, c.y, got.Q(), c.want)
		}
	}
	wantR(t, "what goes up, but for a multiple of the prime", over("4294967292 2 1", "1 1"), "4294967292 2 1", "1 1")
	wantR(t, "what goes up, below the bar a multiple of the prime", over("0 1 1", "0 4294967291"), "1/4294967291 1/4294967291", "1")
	wantR(t, "what goes up, above the bar a multiple of the prime", over("0 1 4294967291", "0 1"), "1 4294967291", "1")
}

// All that is told of them quickly is so.
func TestQuickAgainstEuclid(t *testing.T) {
	r := rand.New(rand.NewSource(4))
	apart, more := 0, 0
	for range 3000 {
		shared := someP(r, 3)
		x, y := shared.Times(someP(r, 4)), shared.Times(someP(r, 4))
		if x.IsZero() || y.IsZero() {
			continue
		}
		degree := len(euclid(x, y)) - 1
		if got := mostShared(x, y); got < degree {
			t.Fatalf("%v and %v share no more than %d, but share %d", x.Q(), y.Q(), got, degree)
		} else if got == 0 {
			apart++
		}
		if _, rest := x.Parted(y); rest.IsZero() && !mayGoInto(y, x) {
			t.Fatalf("%v goes into %v", y.Q(), x.Q())
		} else if !rest.IsZero() && !mayGoInto(y, x) {
			more++
		}
	}
	if apart < 300 || more < 300 {
		t.Errorf("only %d are told to be apart, and %d not to go up", apart, more)
	}
	if !mayGoInto(p("1 1"), nil) || mayGoInto(p("1 1"), p("3")) {
		t.Error("what goes into 0, and what into a number?")
	}
}

// Numbers as long as those of a great net.
func TestCommonOfLongNumbers(t *testing.T) {
	r := rand.New(rand.NewSource(2))
	long := func(n int) P {
		var l []api.Q
		for range n {
			var b strings.Builder
			for range 200 {
				b.WriteByte(byte('0' + r.Intn(10)))
			}
			l = append(l, api.Q("1"+b.String()))
		}
		return Of(l)
	}
	shared, x, y := long(6).Plain(), long(12), long(13)
	if got := Common(shared.Times(x), shared.Times(y)); !slices.Equal(got.Q(), shared.Q()) {
		t.Error("another divisor")
	}
}

func ratio(up, down string) api.Ratio { return api.Ratio{Up: words(up), Down: words(down)} }

func over(up, down string) R {
	x, code := OfRatio(ratio(up, down))
	if code != api.OK {
		panic(code)
	}
	return x
}

func wantR(t *testing.T, what string, got R, up, down string) {
	t.Helper()
	r := got.Ratio()
	if !slices.Equal(r.Up, words(up)) || !slices.Equal(r.Down, words(down)) {
		t.Errorf("%s: %v, want %s over %s", what, r, up, down)
	}
}

func TestRatiosInLowestTerms(t *testing.T) {
	wantR(t, "0", over("", "3 2"), "", "1")
	wantR(t, "the zero value", R{}, "", "1")
	wantR(t, "noughts alone", over("0 0 0", "0 5 0"), "", "1")
	wantR(t, "a fraction", over("2", "3"), "2/3", "1")
	wantR(t, "a common divisor", over("-1 0 1", "2 2"), "-1/2 1/2", "1")
	wantR(t, "a common divisor, and more", over("0 1 1", "2 0 -2"), "0 -1/2", "-1 1")
	wantR(t, "noughts at the end", over("1 0", "0 2 0 0"), "1/2", "0 1")
	wantR(t, "s", S(), "0 1", "1")
	wantR(t, "a polynomial", Whole(p("1 2")), "1 2", "1")
}

func TestErrorsOfRatios(t *testing.T) {
	most := strings.Repeat("0 ", api.MaxDegree+1)
	for _, c := range []struct {
		up, down string
		want     api.Errno
	}{
		{most, "1", api.OK}, {"1", "1 " + most[2:], api.OK},
		{most + "0", "1", api.ErrMany}, {"1", "1 " + most, api.ErrMany}, {"1", "0 " + most, api.ErrMany}, {most + "0", "", api.ErrMany},
		{"1", "", api.ErrZero}, {"", "", api.ErrZero}, {"1", most, api.ErrZero}, {"1", "x 1/0 -", api.ErrZero},
	} {
		if x, code := OfRatio(ratio(c.up, c.down)); code != c.want || code != api.OK && !x.IsZero() {
			t.Errorf("%s over %s: %d, want %d", c.up, c.down, code, c.want)
		}
	}
}

func TestReckoningWithRatios(t *testing.T) {
	x, y := over("1", "0 1"), over("0 1", "1 1")
	wantR(t, "plus", x.Plus(y), "1 1 1", "0 1 1")
	wantR(t, "minus", x.Minus(x), "", "1")
	wantR(t, "minus s", x.Minus(S()), "1 0 -1", "0 1")
	wantR(t, "times", x.Times(y), "1", "1 1")
	wantR(t, "over", x.Over(y), "1 1", "0 0 1")
	wantR(t, "over 0", x.Over(R{}), "", "1")
	wantR(t, "0 over", R{}.Over(x), "", "1")
	wantR(t, "opposite", y.Opposite(), "0 -1", "1 1")
	wantR(t, "whole ones", over("1 1", "1").Times(over("-1 1", "2")), "-1/2 0 1/2", "1")
	// What both share below the bar, and what the sum shares with it.
	wantR(t, "a bar in common", over("1", "0 1 1").Plus(over("1", "0 -1 1")), "2", "-1 0 1")
	wantR(t, "the same bar", over("1", "1 1").Plus(over("0 1", "1 1")), "1", "1")
	wantR(t, "to 0 over a bar", over("1", "1 1").Minus(over("2", "2 2")), "", "1")
	wantR(t, "0 and one with a bar", R{}.Plus(over("1", "1 1")), "1", "1 1")
	wantR(t, "0 times one with a bar", R{}.Times(over("1", "1 1")), "", "1")
	wantR(t, "one with a bar times 0", over("1", "1 1").Times(R{}), "", "1")
	wantR(t, "one with a bar over its own", over("2", "1 1").Over(over("1", "3 3")), "6", "1")
	wantR(t, "a whole one over one with a bar", over("2 2", "1").Over(over("4", "1 1")), "1/2 1 1/2", "1")
	f := Ratios()
	wantR(t, "a fraction", f.Of(frac.Of("-2/3")), "-2/3", "1")
	if !f.IsZero(f.Of(frac.F{})) || f.IsZero(f.One) {
		t.Error("which are 0?")
	}
}

func TestBarsAndSizes(t *testing.T) {
	wantR(t, "of 0", R{}.Bar(), "1", "1")
	wantR(t, "of a whole one", over("2 -3", "1").Bar(), "1", "1")
	wantR(t, "of fractions", over("1/4 5/6", "1").Bar(), "12", "1")
	wantR(t, "of both", over("1/2", "1/3 1").Bar(), "2/3 2", "1")
	if over("1", "1").Size() != over("-1", "1").Size() {
		t.Error("1 and its opposite have other sizes")
	}
	for _, x := range []R{S(), over("2", "1"), over("1", "0 1"), over("1 1", "1"), over("0 0 1", "1")} {
		if x.Size() <= over("1", "1").Size() {
			t.Errorf("%v is no longer than 1", x.Ratio())
		}
	}
}

// All laws of numbers, and that one number has one form.
func TestLawsOfRatios(t *testing.T) {
	r := rand.New(rand.NewSource(3))
	some := func() R {
		down := someP(r, 4)
		for down.IsZero() {
			down = someP(r, 4)
		}
		return lowest(someP(r, 4), down)
	}
	same := func(what string, x, y R) {
		t.Helper()
		if !slices.Equal(x.Ratio().Up, y.Ratio().Up) || !slices.Equal(x.Ratio().Down, y.Ratio().Down) {
			t.Fatalf("%s: %v, %v", what, x.Ratio(), y.Ratio())
		}
		if x.Down().Last().Q() != "1" || len(euclid(x.Up(), x.Down())) != 1 {
			t.Fatalf("%s: %v isn't in lowest terms", what, x.Ratio())
		}
	}
	for range 500 {
		x, y, z := some(), some(), some()
		same("sums", x.Plus(y).Plus(z), z.Plus(y.Plus(x)))
		same("products", x.Times(y).Times(z), z.Times(y.Times(x)))
		same("both", x.Times(y.Plus(z)), x.Times(y).Plus(x.Times(z)))
		same("there and back", x.Plus(y).Minus(y), x)
		if !y.IsZero() {
			same("there and back, times", x.Times(y).Over(y), x)
		}
		bar := x.Bar()
		if made := x.Times(bar); bar.IsZero() || !made.isWhole() || made.Bar().Size() != 2 {
			t.Fatalf("%v times %v: %v", x.Ratio(), bar.Ratio(), made.Ratio())
		}
	}
}

// A volt behind a resistor, and so many capacitors that there are more parts than a net is allowed to have.
func TestVolts(t *testing.T) {
	n := api.Net{Nodes: 3, Parts: []api.Part{{Kind: api.V, A: 1, Value: "1"}, {Kind: api.R, A: 1, B: 2, Value: "2"}, {Kind: api.C, A: 2, Value: "3"}}}
	for range api.MaxParts {
		n.Parts = append(n.Parts, api.Part{Kind: api.C, A: 2, Value: "3"})
	}
	volts, code := Volts(n)
	if code != api.OK || len(volts) != 3 {
		t.Fatalf("%v, %d", volts, code)
	}
	wantR(t, "ground", volts[0], "", "1")
	wantR(t, "source", volts[1], "1", "1")
	wantR(t, "capacitors", volts[2], "1/102", "1/102 1")
	if volts, code = Volts(api.Net{Nodes: 2}); code != api.ErrFree || volts != nil {
		t.Errorf("%v, %d", volts, code)
	}
}
