package near

import (
	"math"
	"math/big"
	"slices"
	"strings"
	"testing"

	"voltaic/api"
)

const (
	least = math.SmallestNonzeroFloat64
	most  = math.MaxFloat64
)

func part(kind, a, b int, value api.Q) api.Part {
	return api.Part{Kind: kind, A: a, B: b, Value: value}
}

func led(kind, a, b, c, d int, value api.Q) api.Part {
	return api.Part{Kind: kind, A: a, B: b, C: c, D: d, Value: value}
}

func netOf(nodes int, parts ...api.Part) api.Net { return api.Net{Nodes: nodes, Parts: parts} }

// behind has a volt at node 1, a resistor from there to node 2, and a part from there to the ground.
func behind(ohms api.Q, p api.Part) api.Net {
	return netOf(3, part(api.V, 1, 0, "1"), part(api.R, 1, 2, ohms), p)
}

// at has just those volts at node 1.
func at(volts api.Q) api.Net { return netOf(2, part(api.V, 1, 0, volts)) }

// sameFloat holds floats against each other bit by bit, so that 0 isn't -0.
func sameFloat(x, y float64) bool { return math.Float64bits(x) == math.Float64bits(y) }

func sameComplex(x, y complex128) bool {
	return sameFloat(real(x), real(y)) && sameFloat(imag(x), imag(y))
}

func wantVolts(t *testing.T, n api.Net, w float64, want ...complex128) {
	t.Helper()
	if got, f := Volts(n, w); f != (api.Fault{}) || !slices.EqualFunc(got, want, sameComplex) {
		t.Errorf("Volts(%v, %v): %v, %v, want %v", n, w, got, f, want)
	}
}

func wantFar(t *testing.T, n api.Net, w float64, want ...float64) {
	t.Helper()
	if got, f := Far(n, w); f != (api.Fault{}) || !slices.EqualFunc(got, want, sameFloat) {
		t.Errorf("Far(%v, %v): %v, %v, want %v", n, w, got, f, want)
	}
}

// wantFault asks both calls, and that they tell nothing else.
func wantFault(t *testing.T, n api.Net, w float64, code api.Errno, at int) {
	t.Helper()
	want := api.Fault{Code: code, At: at}
	if got, f := Volts(n, w); got != nil || f != want {
		t.Errorf("Volts(%v, %v): %v, %v, want %v and nothing else", n, w, got, f, want)
	}
	if got, f := Far(n, w); got != nil || f != want {
		t.Errorf("Far(%v, %v): %v, %v, want %v and nothing else", n, w, got, f, want)
	}
}

func TestSwingsAsFloats(t *testing.T) {
	c := behind("1", part(api.C, 2, 0, "1"))
	wantVolts(t, c, 1, 0, 1, 0.5-0.5i)
	wantFar(t, c, 1, 0, 1, 0.5)
	wantVolts(t, c, 2, 0, 1, 0.2-0.4i)
	wantFar(t, c, 2, 0, 1, 0.2)
	wantVolts(t, c, 0.5, 0, 1, 0.8-0.4i)
	wantFar(t, c, 0.5, 0, 1, 0.8)
	wantVolts(t, c, 3, 0, 1, 0.1-0.3i)
	wantFar(t, c, 3, 0, 1, 0.1)
	l := behind("1", part(api.L, 2, 0, "1"))
	wantVolts(t, l, 1, 0, 1, 0.5+0.5i)
	wantVolts(t, l, 2, 0, 1, 0.8+0.4i)
	wantFar(t, l, 2, 0, 1, 0.8)
	beside := netOf(2, part(api.I, 0, 1, "13"), part(api.R, 1, 0, "1"), part(api.C, 1, 0, "1"), part(api.L, 1, 0, "1"))
	wantVolts(t, beside, 2, 0, 4-6i)
	wantFar(t, beside, 2, 0, 52)
	sources := netOf(4, part(api.V, 1, 0, "2"), part(api.R, 1, 2, "1"), part(api.C, 2, 0, "1"), led(api.G, 3, 0, 0, 2, "2"), part(api.L, 3, 0, "3"))
	wantVolts(t, sources, 1, 0, 2, 1-1i, 6+6i)
	wantFar(t, sources, 1, 0, 4, 2, 72)
	e := netOf(4, part(api.V, 1, 0, "2"), part(api.R, 1, 2, "1"), part(api.C, 2, 0, "1"), led(api.E, 3, 0, 2, 0, "-1/3"))
	wantVolts(t, e, 1, 0, 2, 1-1i, complex(-1.0/3, 1.0/3))
	wantFar(t, e, 1, 0, 4, 2, 2.0/9)
}

// The pace is just what the float is. So an L and a C that would ring at 1/10 don't at 0.1, and ring where they have the fraction that this float is.
func TestPacesAreTheFractionsThatFloatsAre(t *testing.T) {
	ring := func(henries, farads api.Q) api.Net {
		return netOf(2, part(api.I, 0, 1, "1"), part(api.L, 1, 0, henries), part(api.C, 1, 0, farads))
	}
	wantVolts(t, ring("100", "1"), 0.1, 0, complex(0, -9.007199254740992e+16))
	wantVolts(t, ring("100/9", "1"), 0.3, 0, complex(0, 4.503599627370496e+16))
	wantFar(t, ring("100/9", "1"), 0.3, 0, 2.028240960365167e+33)
	over := api.Q("36028797018963968/3602879701896397")
	wantFault(t, ring(over, over), 0.1, api.ErrNone, 0)
	wantFault(t, ring("2/3", "2/3"), 1.5, api.ErrNone, 0)
	wantFault(t, ring("1/4", "1/4"), 4, api.ErrNone, 0)
}

func TestPacesAtRest(t *testing.T) {
	for _, w := range []float64{0, math.Copysign(0, -1)} {
		wantVolts(t, behind("2", part(api.L, 2, 0, "7")), w, 0, 1, 0)
		wantFar(t, behind("2", part(api.L, 2, 0, "7")), w, 0, 1, 0)
		wantVolts(t, behind("2", part(api.C, 2, 0, "7")), w, 0, 1, 1)
		wantFar(t, behind("2", part(api.C, 2, 0, "7")), w, 0, 1, 1)
		wantFault(t, netOf(2, part(api.V, 1, 0, "1"), part(api.L, 1, 0, "1")), w, api.ErrNone, 0)
		wantFault(t, netOf(2, part(api.V, 1, 0, "0"), part(api.L, 1, 0, "1")), w, api.ErrFree, 0)
		wantFault(t, netOf(2, part(api.I, 0, 1, "1"), part(api.C, 1, 0, "1")), w, api.ErrNone, 0)
		wantFault(t, netOf(2, part(api.I, 0, 1, "0"), part(api.C, 1, 0, "1")), w, api.ErrFree, 0)
	}
}

// At the least pace that isn't 0, and at the greatest.
func TestPacesAtTheEdges(t *testing.T) {
	c, l := behind("1", part(api.C, 2, 0, "1")), behind("1", part(api.L, 2, 0, "1"))
	wantVolts(t, c, least, 0, 1, complex(1, -least))
	wantFar(t, c, least, 0, 1, 1)
	wantVolts(t, l, least, 0, 1, complex(0, least))
	wantFar(t, l, least, 0, 1, 0)
	wantVolts(t, c, most, 0, 1, complex(0, -5.562684646268003e-309))
	wantFar(t, c, most, 0, 1, 0)
	wantVolts(t, l, most, 0, 1, complex(1, 5.562684646268003e-309))
	wantFar(t, l, most, 0, 1, 1)
	// As soon as something swings there is an answer; here it is beyond all floats.
	pushed := netOf(2, part(api.I, 0, 1, "1"), part(api.C, 1, 0, "1"))
	wantVolts(t, pushed, least, 0, complex(0, math.Inf(-1)))
	wantFar(t, pushed, least, 0, math.Inf(1))
	wantVolts(t, netOf(2, part(api.I, 0, 1, "1"), part(api.L, 1, 0, "1")), most, 0, complex(0, most))
	wantVolts(t, netOf(2, part(api.I, 0, 1, "1"), part(api.L, 1, 0, "2")), most, 0, complex(0, math.Inf(1)))
}

func TestWhatIsNoPace(t *testing.T) {
	for _, w := range []float64{-1, -least, -most, -0.1, math.Inf(1), math.Inf(-1), math.NaN(), -math.NaN()} {
		wantFault(t, behind("2", part(api.L, 2, 0, "7")), w, api.ErrValue, 3)
		wantFault(t, netOf(1), w, api.ErrValue, 0)
		// Ahead of nets that have no answer, or many.
		wantFault(t, netOf(2), w, api.ErrValue, 0)
		wantFault(t, netOf(2, part(api.V, 1, 0, "1"), part(api.V, 1, 0, "2")), w, api.ErrValue, 2)
		wantFault(t, netOf(2, part(api.I, 1, 0, "1")), w, api.ErrValue, 1)
		wantFault(t, netOf(2, slices.Repeat([]api.Part{part(api.R, 0, 1, "1")}, api.MaxParts)...), w, api.ErrValue, api.MaxParts)
	}
}

func TestNetsWithLittleInThem(t *testing.T) {
	for _, w := range []float64{0, 1, 0.1, least, most} {
		wantVolts(t, netOf(1), w, 0)
		wantFar(t, netOf(1), w, 0)
		wantVolts(t, api.Net{Nodes: 1, Parts: []api.Part{}}, w, 0)
		wantVolts(t, netOf(2, part(api.R, 1, 0, "1")), w, 0, 0)
		for nodes := 2; nodes <= api.MaxNodes; nodes++ {
			wantFault(t, netOf(nodes), w, api.ErrFree, 0)
		}
	}
}

func TestNetsWithNoAnswerOrMany(t *testing.T) {
	for _, w := range []float64{0, 1, 0.1, least, most} {
		wantFault(t, netOf(2, part(api.V, 1, 0, "1"), part(api.V, 1, 0, "2"), part(api.C, 1, 0, "1")), w, api.ErrNone, 0)
		wantFault(t, netOf(2, part(api.V, 1, 0, "1"), part(api.V, 0, 1, "-1"), part(api.C, 1, 0, "1")), w, api.ErrFree, 0)
		wantFault(t, netOf(2, part(api.I, 1, 0, "1")), w, api.ErrNone, 0)
		wantFault(t, netOf(2, part(api.I, 1, 0, "0")), w, api.ErrFree, 0)
		// No answer goes ahead of more than one.
		wantFault(t, netOf(3, part(api.V, 1, 0, "1"), part(api.V, 1, 0, "2")), w, api.ErrNone, 0)
	}
}

// What chapter 2 says against a net, ahead of what is wrong with the pace.
func TestFaultsOfNets(t *testing.T) {
	for _, w := range []float64{0, 1, -1, math.NaN(), math.Inf(1)} {
		for _, nodes := range []int{0, -1, api.MaxNodes + 1, math.MaxInt, math.MinInt} {
			wantFault(t, netOf(nodes), w, api.ErrMany, 0)
		}
		wantFault(t, netOf(2, slices.Repeat([]api.Part{part(api.R, 0, 1, "1")}, api.MaxParts+1)...), w, api.ErrMany, 0)
		for code, wrong := range map[api.Errno][]api.Part{
			api.ErrKind:  {part(api.D, 1, 0, ""), part(0, 1, 0, "1"), part(-1, 1, 0, "1"), part(9, 9, 9, "1")},
			api.ErrNode:  {part(api.R, 3, 0, "1"), part(api.L, 0, -1, "1"), led(api.E, 1, 0, 3, 0, "1"), led(api.G, 1, 0, 0, -1, "1")},
			api.ErrValue: {part(api.R, 1, 0, "0"), part(api.L, 1, 0, "-1"), part(api.C, 1, 0, "x")},
			api.ErrForm:  {led(api.C, 1, 0, 1, 0, "1"), led(api.V, 1, 0, 0, 1, "1"), led(api.I, 1, 0, 0, -1, "1")},
		} {
			for _, p := range wrong {
				wantFault(t, netOf(3, part(api.V, 1, 0, "1"), part(api.V, 1, 0, "2"), p, part(0, 0, 0, "")), w, code, 2)
				wantFault(t, netOf(3, p, part(api.D, 1, 0, "")), w, code, 0)
			}
		}
	}
}

// two is two to the power of n, as a text; below 0 it is over the bar.
func two(n int) api.Q {
	power := new(big.Int).Lsh(big.NewInt(1), uint(max(n, -n))).String()
	if n < 0 {
		return api.Q("1/" + power)
	}
	return api.Q(power)
}

// product is of all those fractions, as a text.
func product(l ...api.Q) api.Q {
	out := big.NewRat(1, 1)
	for _, q := range l {
		x, _ := new(big.Rat).SetString(string(q))
		out.Mul(out, x)
	}
	return api.Q(out.RatString())
}

// Of two floats that are as near, the one whose last bit is 0; beside the middle the nearer one.
func TestVoltsBetweenTwoFloats(t *testing.T) {
	noughts, nines := api.Q(strings.Repeat("0", 60)), api.Q(strings.Repeat("9", 60))
	for volts, want := range map[api.Q]float64{
		"9007199254740993": 9007199254740992,
		"9007199254740995": 9007199254740996,
		"9007199254740993" + noughts + "1/10" + noughts: 9007199254740994,
		"9007199254740994" + nines + "/1" + noughts:     9007199254740994,
		"18014398509481983":                             18014398509481984,
		"9007199254740993/9007199254740992":             1,
		"9007199254740995/9007199254740992":             1 + 0x1p-51,
		"1/3":                                           1.0 / 3,
		"1/10":                                          0.1,
	} {
		wantVolts(t, at(volts), 1, 0, complex(want, 0))
		wantVolts(t, at("-"+volts), 0.1, 0, complex(-want, 0))
	}
}

func TestVoltsAmongTheSmallestFloats(t *testing.T) {
	for volts, want := range map[api.Q]float64{
		two(-1074):                   least,
		two(-1075):                   0,
		product(two(-1075), "11/10"): least,
		product(two(-1074), "3/2"):   2 * least,
		product(two(-1074), "5/2"):   2 * least,
		product(two(-1074), "7/3"):   2 * least,
		product(two(-1074), "7/2"):   4 * least,
		two(-1022):                   0x1p-1022,
		// The greatest of them, half of the last bit more, and less than that.
		product(two(-1075), "9007199254740991"):     0x1p-1022,
		product(two(-1075), "90071992547409909/10"): 0x1p-1022 - least,
		two(-3000): 0,
	} {
		wantVolts(t, at(volts), 1, 0, complex(want, 0))
		if got, f := Volts(at("-"+volts), 1); f != (api.Fault{}) || got[1] != complex(-want, 0) {
			t.Errorf("-%s: %v, %v, want %v", volts, got, f, -want)
		}
	}
}

func TestVoltsBeyondTheGreatestFloat(t *testing.T) {
	for volts, want := range map[api.Q]float64{
		product(two(971), "9007199254740991"):     most,
		product(two(970), "18014398509481982"):    most,
		product(two(969), "36028797018963965"):    most,
		product(two(970), "18014398509481983"):    math.Inf(1),
		product(two(900), two(200)):               math.Inf(1),
		two(1024):                                 math.Inf(1),
		two(1023):                                 0x1p1023,
		product(two(5000), "3"):                   math.Inf(1),
		product(two(5000), two(-5001), two(1024)): 0x1p1023,
	} {
		wantVolts(t, at(volts), 1, 0, complex(want, 0))
		wantVolts(t, at("-"+volts), 1, 0, complex(-want, 0))
	}
}

// Squares are neither those of floats nor floats themselves ahead of being added.
func TestFarAddsExactly(t *testing.T) {
	wantFar(t, at("1/5"), 1, 0, 0.04)
	wantFar(t, at("-1/5"), 1, 0, 0.04)
	c := func(volts api.Q) api.Net {
		return netOf(3, part(api.V, 1, 0, volts), part(api.R, 1, 2, "1"), part(api.C, 2, 0, "1"))
	}
	// At node 2 is k - 2 k i: both are floats, their squares aren't.
	k := api.Q("134217731")
	n := c(product(k, "5"))
	wantVolts(t, n, 2, 0, 671088655, 134217731-268435462i)
	wantFar(t, n, 2, 0, 450359982869709045, 9.007199657394181e+16)
	// Each square is too small for a float; both together are nearer to the least one than to 0.
	wantFar(t, c(product(two(-537), "6/5")), 1, 0, least, least)
	wantFar(t, c(product(two(-537), "1")), 1, 0, least, 0)
	// Volts that are floats, and squares that aren't any more, alone or only together.
	wantVolts(t, c(two(-600)), 1, 0, 0x1p-600, 0x1p-601-0x1p-601i)
	wantFar(t, c(two(-600)), 1, 0, 0, 0)
	wantVolts(t, c(product(two(512), "5/4")), 1, 0, 0x1p512*1.25, 0x1p511*1.25-0x1p511*1.25i)
	wantFar(t, c(product(two(512), "5/4")), 1, 0, math.Inf(1), 0x1p1023*1.5625)
	wantFar(t, c(product(two(512), "3/2")), 1, 0, math.Inf(1), math.Inf(1))
	// Just between two floats, and a little beside: 5 k k is odd, and has 54 bits.
	wantFar(t, c("250000005"), 2, 0, 62500002500000025, 12500000500000004)
	wantFar(t, c("250000015"), 2, 0, 62500007500000225, 12500001500000044)
	wantFar(t, c("250000005000000000000000000000000000001/1000000000000000000000000000000"), 2, 0, 62500002500000025, 12500000500000006)
	wantFar(t, c("250000014999999999999999999999999999999/1000000000000000000000000000000"), 2, 0, 62500007500000225, 12500001500000044)
}

func TestAsManyAsThereMayBe(t *testing.T) {
	n := netOf(api.MaxNodes, part(api.I, 0, 1, "1"))
	for i := range api.MaxParts - 1 {
		n.Parts = append(n.Parts, part(1+i%3, i%api.MaxNodes, (i+1)%api.MaxNodes, api.Q(strings.Repeat("3", 31)+"/7")))
	}
	for _, w := range []float64{0.1, 1e9, least, most} {
		agree(t, n, w)
	}
}
