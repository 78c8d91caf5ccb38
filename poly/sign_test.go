package poly

import (
	"math/rand"
	"strings"
	"testing"

	"voltaic/api"
	"voltaic/frac"
	"voltaic/solve"
)

func wantNeverBelow(t *testing.T, x P, want bool) {
	t.Helper()
	if got := NeverBelow(x); got != want {
		t.Errorf("%v is never below 0: %t, want %t", x.Q(), got, want)
	}
}

func TestNeverBelow(t *testing.T) {
	for text, want := range map[string]bool{
		"": true, "3": true, "-1/2": false, "0 1": true, "0 -1": false, "0 0 -3": false, "0 0 0 5": true,
		// One root: on the left, at 0, on the right; from above.
		"1 1": true, "-1 1": false, "1 -1": false, "-1 -1": false, "1/9 7": true,
		// Two: none that are real, on the left, one on either side, both on the right.
		"1 0 1": true, "1 -1 1": true, "2 3 1": true, "-1 0 1": false, "2 -3 1": false, "-1 -1 -1": false, "1 0 -1": false,
		// On the right twice to five times, where it changes its sign or doesn't.
		"1 -2 1": true, "-1 2 -1": false, "-1 3 -3 1": false, "1 -4 6 -4 1": true, "-1 5 -10 10 -5 1": false,
		// 1 twice, with 2, with 2 twice, with -2, and with 0.
		"-2 5 -4 1": false, "4 -12 13 -6 1": true, "2 -3 0 1": true, "0 1 -2 1": true, "0 -1 2 -1": false,
		// The root of 2, twice and once.
		"4 0 -4 0 1": true, "-2 0 1": false,
		// A little above 0, and a little below.
		"1000000000001/1000000000000 -2 1": true, "999999999999/1000000000000 -2 1": false,
	} {
		wantNeverBelow(t, p(text), want)
	}
}

func TestChanging(t *testing.T) {
	for _, c := range []struct{ x, want string }{
		{"5", "1"}, {"2 4", "1 2"}, {"1/2 1/3", "3 2"}, {"2 -3 1", "2 -3 1"},
		{"1 -2 1", "1"}, {"-1 3 -3 1", "-1 1"}, {"1 -4 6 -4 1", "1"}, {"-1 5 -10 10 -5 1", "-1 1"},
		{"-2 5 -4 1", "-2 1"}, {"4 -12 13 -6 1", "1"}, {"0 0 0 7", "0 1"}, {"4 0 -4 0 1", "1"},
	} {
		wantP(t, c.x, changing(p(c.x)), c.want)
	}
}

// someKnown is a product whose roots on the right are 2/3, 1 and the root of 3, some of them, each once or more often; and whether it is below 0 nowhere there, told by places between these.
func someKnown(r *rand.Rand) (x P, never bool) {
	factors := []string{"1 1", "-1 1", "0 1", "-2 3", "1 0 1", "1 -1 1", "-3 0 1", "1000001/1000000 -2 1"}
	x = p("3/2")
	for range r.Intn(5) {
		factor := p(factors[r.Intn(len(factors))])
		for range 1 + r.Intn(3) {
			x = x.Times(factor)
		}
	}
	never = true
	for _, place := range words("1/2 5/6 3/2 2") {
		never = never && Value(solve.Fractions(), x, frac.Of(place)).Sign() > 0
	}
	return x, never
}

func TestNeverBelowOfKnownRoots(t *testing.T) {
	r := rand.New(rand.NewSource(8))
	seen := map[bool]int{}
	for range 1000 {
		x, never := someKnown(r)
		seen[never]++
		wantNeverBelow(t, x, never)
		wantNeverBelow(t, x.Times(x), true)
		wantNeverBelow(t, x.Times(x).Opposite(), false)
	}
	if seen[true] < 200 || seen[false] < 200 {
		t.Errorf("only %v", seen)
	}
}

// stretched is x at s times a number, times another one.
func stretched(x P, inner, outer frac.F) P {
	return Filled(len(x), func(power int) frac.F {
		number := x[power].Times(outer)
		for range power {
			number = number.Times(inner)
		}
		return number
	})
}

// Where numbers are long, it makes no difference how long they are.
func TestNeverBelowInLongNumbers(t *testing.T) {
	r := rand.New(rand.NewSource(9))
	long := func(digits int) frac.F {
		out := frac.F{}
		for range digits/9 + 1 {
			out = out.Times(frac.Ten(9)).Plus(frac.OfWord(uint32(r.Intn(1000000000))))
		}
		return out.Plus(frac.Of("1"))
	}
	for range 100 {
		x, never := someKnown(r)
		wantNeverBelow(t, stretched(x, long(30), long(500)), never)
		wantNeverBelow(t, stretched(x, long(60).Over(long(60)), long(500)), never)
		wantNeverBelow(t, stretched(x, long(20).Over(long(40)), long(5).Over(long(200))), never)
	}
}

// What is told by a few digits is what is told by all of them.
func TestAFewDigitsTellTheSame(t *testing.T) {
	r := rand.New(rand.NewSource(10))
	seen := map[bool]int{}
	for range 300 {
		x := Filled(2+r.Intn(5), func(int) frac.F {
			out := frac.OfWord(1 + uint32(r.Intn(1000)))
			for range 40 {
				out = out.Times(frac.Ten(9)).Plus(frac.OfWord(uint32(r.Intn(1000000000))))
			}
			if r.Intn(4) == 0 {
				out = out.Opposite()
			}
			return out
		})
		above := isAboveByJumps(x)
		seen[above]++
		if isAbove(x) != above {
			t.Errorf("%v is above 0: %t", x.Q(), above)
		}
		if never := NeverBelow(x); never != above {
			t.Errorf("%v is never below 0: %t, want %t", x.Q(), never, above)
		}
	}
	if seen[true] < 50 || seen[false] < 50 {
		t.Errorf("only %v", seen)
	}
}

// Only the last digits of long numbers tell these: (s - a) squared, with a little more or less, and just so.
func TestNeverBelowByTheLastDigits(t *testing.T) {
	for _, digits := range []int{3, 60, 110, 400, 1500} {
		a := frac.Of(api.Q(strings.Repeat("7", digits)))
		middle := a.Plus(a).Opposite()
		one := frac.Of("1")
		for more, want := range map[string]bool{"0": true, "1": true, "-1": false, "1/1000": true, "-1/1000": false} {
			wantNeverBelow(t, P{a.Times(a).Plus(frac.Of(api.Q(more))), middle, one}, want)
			wantNeverBelow(t, P{a.Times(a), middle.Plus(frac.Of(api.Q(more))), one}, want)
			wantNeverBelow(t, P{a.Times(a), middle, one.Plus(frac.Of(api.Q(more)).Times(frac.Ten(-5)))}, want)
		}
	}
}

func TestRaised(t *testing.T) {
	wantP(t, "by nothing", p("1 2").Raised(0), "1 2")
	wantP(t, "by two", p("1 0 2").Raised(2), "0 0 1 0 2")
}
