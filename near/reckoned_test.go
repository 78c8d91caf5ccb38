package near

import (
	"math"
	"math/big"
	"math/rand"
	"slices"
	"testing"

	"voltaic/alter"
	"voltaic/api"
)

const fewestSeen = 100

func rat(q api.Q) *big.Rat {
	x, ok := new(big.Rat).SetString(string(q))
	if !ok {
		panic("no fraction: " + string(q))
	}
	return x
}

func times(x, y *big.Rat) *big.Rat { return new(big.Rat).Mul(x, y) }

func nearest(x *big.Rat) float64 {
	f, _ := x.Float64()
	return f
}

// someNet draws a net with which nothing is wrong, but perhaps that it has no answer or many.
func someNet(r *rand.Rand) api.Net {
	n := api.Net{Nodes: 1 + r.Intn(5)}
	for range r.Intn(12) {
		p := part(api.R, r.Intn(n.Nodes), r.Intn(n.Nodes), api.Q(big.NewRat(int64(1+r.Intn(40)), int64(1+r.Intn(30))).RatString()))
		if r.Intn(3) > 0 {
			p.Kind = api.R + r.Intn(7)
		}
		if p.Kind >= api.V && r.Intn(2) == 0 {
			p.Value = "-" + p.Value
		}
		if p.Kind >= api.E {
			p.C, p.D = r.Intn(n.Nodes), r.Intn(n.Nodes)
		}
		n.Parts = append(n.Parts, p)
	}
	return n
}

// somePace draws paces of all sizes; most of them are no short decimals.
func somePace(r *rand.Rand) float64 {
	switch r.Intn(5) {
	case 0:
		return float64(r.Intn(4)) / 10
	case 1:
		return r.ExpFloat64()
	case 2:
		return math.Ldexp(r.Float64(), r.Intn(80)-40)
	case 3:
		return math.Float64frombits(r.Uint64() >> (12 + r.Intn(52)))
	}
	return min(most, math.Abs(math.Float64frombits(r.Uint64()&^(1<<62))))
}

// agree holds both calls against chapter 5's at just the fraction that the pace is, rounded by another reckoner.
func agree(t *testing.T, n api.Net, w float64) api.Errno {
	t.Helper()
	s, want := alter.Solve(n, api.Q(new(big.Rat).SetFloat64(w).RatString()))
	var volts []complex128
	var far []float64
	for _, z := range s.Volts {
		re, im := rat(z.Re), rat(z.Im)
		volts = append(volts, complex(nearest(re), nearest(im)))
		far = append(far, nearest(new(big.Rat).Add(times(re, re), times(im, im))))
	}
	if got, f := Volts(n, w); f != want || !slices.EqualFunc(got, volts, sameComplex) {
		t.Fatalf("Volts(%v, %v): %v, %v, want %v, %v", n, w, got, f, volts, want)
	}
	if got, f := Far(n, w); f != want || !slices.EqualFunc(got, far, sameFloat) {
		t.Fatalf("Far(%v, %v): %v, %v, want %v, %v", n, w, got, f, far, want)
	}
	return want.Code
}

func TestAnswersOfChapter5(t *testing.T) {
	r := rand.New(rand.NewSource(1))
	told := map[api.Errno]int{}
	for range 1000 {
		told[agree(t, someNet(r), somePace(r))]++
	}
	for _, code := range []api.Errno{api.OK, api.ErrNone, api.ErrFree} {
		if told[code] < fewestSeen {
			t.Errorf("%d is told %d times only", code, told[code])
		}
	}
}

// What is handed in stays, and the spare room behind it, too; what is answered is no one else's.
func TestNothingIsShared(t *testing.T) {
	r := rand.New(rand.NewSource(2))
	for range 300 {
		n, w := someNet(r), r.Float64()
		room := append(slices.Clone(n.Parts), part(77, 7, 7, "7"), part(78, 8, 8, "8"))
		before := slices.Clone(room)
		n.Parts = room[:len(n.Parts)]
		volts, _ := Volts(n, w)
		far, _ := Far(n, w)
		wantVolts, wantFar := slices.Clone(volts), slices.Clone(far)
		for i := range volts[:cap(volts)] {
			volts[:cap(volts)][i] = -7
		}
		for i := range far[:cap(far)] {
			far[:cap(far)][i] = -7
		}
		volts, _ = Volts(n, w)
		far, _ = Far(n, w)
		if !slices.Equal(volts, wantVolts) || !slices.Equal(far, wantFar) {
			t.Fatalf("%v: %v, %v, then %v, %v", n, wantVolts, wantFar, volts, far)
		}
		if !slices.Equal(room, before) {
			t.Fatalf("%v was changed to %v", before, room)
		}
	}
}
