package poly

import (
	"math/rand"
	"slices"
	"testing"

	"voltaic/frac"
)

func TestFilled(t *testing.T) {
	wantP(t, "nothing", Filled(0, func(int) frac.F { return frac.Of("1") }), "")
	wantP(t, "noughts", Filled(3, func(int) frac.F { return frac.F{} }), "")
	wantP(t, "noughts at the end", Filled(5, func(power int) frac.F {
		if power > 2 {
			return frac.F{}
		}
		return frac.OfWord(uint32(power))
	}), "0 1 2")
}

func TestJumps(t *testing.T) {
	for _, c := range []struct {
		x, y   string
		up     int
		shared string
	}{
		{"5", "", 0, "1"},
		{"-4 2", "", 0, "-2 1"},
		{"3", "7", 0, "1"},
		// 1/s jumps up, -1/s down; 1/(s s) does neither.
		{"0 1", "1", 1, "1"}, {"0 1", "-1", -1, "1"}, {"0 -1", "1", -1, "1"}, {"0 0 1", "1", 0, "1"}, {"0 0 0 1", "1/2", 1, "1"},
		// 1/(s s - 1) jumps down at -1 and up at 1; with s above the bar, up at both; 1/(s s + 1) never.
		{"-1 0 1", "1", 0, "1"}, {"-1 0 1", "0 1", 2, "1"}, {"-1 0 1", "0 -3", -2, "1"}, {"1 0 1", "0 1", 0, "1"},
		// What both share doesn't jump.
		{"-1 0 1", "1 1", 1, "1 1"}, {"-1 0 1", "1 -1", -1, "1 -1"}, {"0 1 1", "0 1", 1, "0 1"}, {"1 2 1", "1 1", 1, "1 1"},
		// As many powers above the bar, and more of them.
		{"0 1", "1 5", 1, "1"}, {"0 1", "-1 0 7", -1, "1"}, {"-1 1", "0 0 0 2", 1, "1"},
	} {
		up, shared := Jumps(p(c.x), p(c.y))
		if up != c.up || !slices.Equal(shared.Q(), words(c.shared)) && !slices.Equal(shared.Opposite().Q(), words(c.shared)) {
			t.Errorf("Jumps of %s over %s: %d, %v, want %d, %s", c.y, c.x, up, shared.Q(), c.up, c.shared)
		}
	}
}

func TestWhatJumpsShareIsCommon(t *testing.T) {
	r := rand.New(rand.NewSource(5))
	for range 1000 {
		shared := someP(r, 5)
		x, y := shared.Times(someP(r, 5)), shared.Times(someP(r, 5))
		if x.IsZero() {
			continue
		}
		up, got := Jumps(x, y)
		if want := Common(x, y); !slices.Equal(got.Q(), want.Q()) && !slices.Equal(got.Opposite().Q(), want.Q()) {
			t.Fatalf("%v and %v share %v, want %v", x.Q(), y.Q(), got.Q(), want.Q())
		}
		if down, _ := Jumps(x, y.Opposite()); down != -up {
			t.Fatalf("%v over %v: %d, of the opposite %d", y.Q(), x.Q(), up, down)
		}
	}
}

func TestLeft(t *testing.T) {
	for _, c := range []struct{ x, y, want string }{
		{"1 2", "1 2 3", "1 2"}, {"-1 0 1", "1 1", ""}, {"1 0 1", "1 1", "2"}, {"1 0 1", "-1 -1", "2"}, {"1 0 1", "1 2", "5"}, {"1 0 1", "-1 -2", "5"}, {"1 0 -1", "1 -2", "3"}, {"", "3", ""}, {"1 2", "-3", ""},
	} {
		wantP(t, c.x+" by "+c.y, p(c.x).left(p(c.y)), c.want)
	}
	r := rand.New(rand.NewSource(6))
	for range 1000 {
		x, y := someP(r, 6), someP(r, 4)
		if y.IsZero() {
			continue
		}
		got := x.left(y)
		if _, want := x.Parted(y); !slices.Equal(got.Plain().Q(), want.Plain().Q()) {
			t.Fatalf("%v by %v: %v, want %v", x.Q(), y.Q(), got.Q(), want.Q())
		}
	}
}

func TestSlope(t *testing.T) {
	wantP(t, "of a number", p("5").slope(), "")
	wantP(t, "of more", p("7 -3 1/2 0 2").slope(), "-3 1 0 8")
}

func TestRealRoots(t *testing.T) {
	for text, want := range map[string]int{
		"5": 0, "-1/3": 0, "1 1": 1, "0 -1": 1, "1 0 1": 0, "-1 0 1": 2, "1 2 1": 2, "-2 0 1": 2, "0 0 0 7": 3, "0 1 0 1": 1,
		"1 0 2 0 1": 0, "1 0 -2 0 1": 4, "-1 3 -3 1": 3, "0 0 -1 1": 3, "-1 0 0 0 1": 2, "-2 0 0 1": 1, "-6 11 -6 1": 3,
	} {
		if got := RealRoots(p(text)); got != want {
			t.Errorf("%s: %d real roots, want %d", text, got, want)
		}
	}
	r := rand.New(rand.NewSource(7))
	for range 500 {
		x, want := p("-3/2"), 0
		for range r.Intn(4) {
			factors := []string{"1 1", "-1 1", "0 1", "2 3", "1 0 1", "1 1 1", "-3 0 1"}
			roots := []int{1, 1, 1, 1, 0, 0, 2}
			which := r.Intn(len(factors))
			for range 1 + r.Intn(3) {
				x, want = x.Times(p(factors[which])), want+roots[which]
			}
		}
		if got := RealRoots(x); got != want {
			t.Fatalf("%v: %d real roots, want %d", x.Q(), got, want)
		}
	}
}
