package frac

import (
	"math"
	"math/big"
	"math/rand"
	"testing"

	"voltaic/api"
)

// sameFloat holds a float against another one, bit by bit, so that 0 isn't -0.
func sameFloat(x, y float64) bool { return math.Float64bits(x) == math.Float64bits(y) }

func ratOf(x F) *big.Rat {
	r, ok := new(big.Rat).SetString(string(x.Q()))
	if !ok {
		panic("no fraction: " + string(x.Q()))
	}
	return r
}

// someFloat draws bits, so that all exponents come up; what is no number or infinite doesn't.
func someFloat(r *rand.Rand) float64 {
	for {
		x := math.Float64frombits(r.Uint64())
		if !math.IsNaN(x) && !math.IsInf(x, 0) {
			return x
		}
	}
}

func TestFloatsAsFractions(t *testing.T) {
	for x, want := range map[float64]api.Q{
		0: "0", 1: "1", -1: "-1", 0.5: "1/2", -0.75: "-3/4", 6: "6", 1 << 60: "1152921504606846976",
		0.1:                "3602879701896397/36028797018963968",
		9007199254740993:   "9007199254740992",
		1e22:               "10000000000000000000000",
		-4294967296.5:      "-8589934593/2",
		1.0 / (1 << 40):    "1/1099511627776",
		4503599627370495.5: "9007199254740991/2",
	} {
		if got := OfFloat(x).Q(); got != want {
			t.Errorf("OfFloat(%v): %s, want %s", x, got, want)
		}
	}
	for _, x := range []float64{math.NaN(), math.Inf(1), math.Inf(-1), math.Copysign(0, -1)} {
		if got := OfFloat(x); !got.IsZero() || got.Sign() != 0 {
			t.Errorf("OfFloat(%v): %s, want 0", x, got.Q())
		}
	}
}

func TestFloatsStayAsTheyAre(t *testing.T) {
	r := rand.New(rand.NewSource(11))
	floats := []float64{0, 1, math.MaxFloat64, -math.MaxFloat64, math.SmallestNonzeroFloat64, -math.SmallestNonzeroFloat64, 0x1p-1022, 0x1p-1022 - 0x1p-1074, 3 * 0x1p-1074}
	for range 2000 {
		floats = append(floats, someFloat(r), float64(r.Int63()), r.Float64(), math.Float64frombits(r.Uint64()>>12))
	}
	for _, x := range floats {
		f := OfFloat(x)
		if want := new(big.Rat).SetFloat64(x); ratOf(f).Cmp(want) != 0 {
			t.Errorf("OfFloat(%v): %s, want %v", x, f.Q(), want)
		}
		if got := f.Nearest(); !sameFloat(got, x) {
			t.Errorf("%v comes back as %v", x, got)
		}
	}
}

// Just between two floats the one whose last bit is 0 is told; however little beside, the nearer one.
func TestNearestBetweenTwoFloats(t *testing.T) {
	r := rand.New(rand.NewSource(12))
	little := Ten(-900)
	floats := []float64{1, 1 + 0x1p-52, 0x1p-1022, 0x1p-1022 - 0x1p-1074, 0, 0x1p-1074, 2 * 0x1p-1074, 1<<53 - 1, 1 << 53, 0x1p1023}
	for range 1000 {
		floats = append(floats, math.Abs(someFloat(r)), r.Float64(), math.Float64frombits(r.Uint64()>>12))
	}
	half := Of("1/2")
	for _, low := range floats {
		high := math.Nextafter(low, math.Inf(1))
		if math.IsInf(high, 1) {
			continue
		}
		even := low
		if math.Float64bits(low)&1 == 1 {
			even = high
		}
		middle := OfFloat(low).Plus(OfFloat(high)).Times(half)
		for _, c := range []struct {
			x    F
			want float64
		}{{middle, even}, {middle.Plus(little), high}, {middle.Minus(little), low}} {
			if got := c.x.Nearest(); !sameFloat(got, c.want) {
				t.Errorf("the nearest to %s: %v, want %v", c.x.Q(), got, c.want)
			}
			if got := c.x.Opposite().Nearest(); !sameFloat(got, -c.want) {
				t.Errorf("the nearest to -%s: %v, want %v", c.x.Q(), got, -c.want)
			}
		}
	}
}

func TestNearestBeyondAllFloats(t *testing.T) {
	most := OfFloat(math.MaxFloat64)
	// From half a step above the greatest float on, the nearest would be the next power of two, if that were a float.
	half := OfFloat(0x1p969).Times(Of("2"))
	little := Ten(-900)
	for _, c := range []struct {
		x    F
		want float64
	}{
		{most, math.MaxFloat64},
		{most.Plus(half).Minus(little), math.MaxFloat64},
		{most.Plus(half), math.Inf(1)},
		{most.Plus(half).Plus(little), math.Inf(1)},
		{most.Plus(half).Plus(half), math.Inf(1)},
		{Ten(309), math.Inf(1)}, {Ten(308), 1e308}, {Ten(5000), math.Inf(1)},
		{Ten(5000).Over(Ten(4999)), 10}, {Ten(5000).Over(Ten(5001)), 0.1},
		{F{}, 0}, {Ten(-5000), 0}, {Ten(-323), 1e-323}, {Ten(-324), 0},
		{Of("247").Times(Ten(-326)), 0}, {Of("248").Times(Ten(-326)), 5e-324},
	} {
		if got := c.x.Nearest(); !sameFloat(got, c.want) {
			t.Errorf("the nearest to %s: %v, want %v", c.x.Q(), got, c.want)
		}
		if got := c.x.Opposite().Nearest(); got != -c.want {
			t.Errorf("the nearest to -%s: %v, want %v", c.x.Q(), got, -c.want)
		}
	}
	if got := Ten(-5000).Opposite().Nearest(); !math.Signbit(got) {
		t.Error("what is too small loses its sign")
	}
	if got := (F{}).Opposite().Nearest(); math.Signbit(got) {
		t.Error("0 gets a sign")
	}
}

func TestNearestAgainstAnotherReckoner(t *testing.T) {
	r := rand.New(rand.NewSource(13))
	for range 5000 {
		x, _ := someFraction(r)
		y, _ := someFraction(r)
		f := x.Over(y)
		if r.Intn(2) == 0 {
			f = f.Times(Ten(r.Intn(800) - 400))
		}
		want, _ := ratOf(f).Float64()
		if got := f.Nearest(); !sameFloat(got, want) {
			t.Fatalf("the nearest to %s: %v, want %v", f.Q(), got, want)
		}
	}
}

func TestComplexFloats(t *testing.T) {
	z := OfZ(api.Z{Re: "2/4", Im: "-1/10"})
	if z.Z() != (api.Z{Re: "1/2", Im: "-1/10"}) || z.Nearest() != complex(0.5, -0.1) {
		t.Errorf("%v, %v", z.Z(), z.Nearest())
	}
	if z = OfZ(api.Z{Re: "x", Im: "1/0"}); !z.IsZero() || z.Nearest() != 0 {
		t.Errorf("what is no fraction: %v", z.Z())
	}
}
