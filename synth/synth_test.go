package synth

import (
	"math"
	"reflect"
	"slices"
	"strings"
	"testing"

	"voltaic/api"
	"voltaic/net"
)

func words(text string) []api.Q {
	var out []api.Q
	for _, w := range strings.Fields(text) {
		out = append(out, api.Q(w))
	}
	return out
}

// ratio is read from two lists of words with a bar between: "1 2 | 0 1" is (1 + 2 s) / s.
func ratio(text string) api.Ratio {
	up, down, _ := strings.Cut(text, "|")
	return api.Ratio{Up: words(up), Down: words(down)}
}

func part(kind, a, b int, value api.Q) api.Part {
	return api.Part{Kind: kind, A: a, B: b, Value: value}
}

func netOf(nodes int, parts ...api.Part) api.Net { return api.Net{Nodes: nodes, Parts: parts} }

func wantPositive(t *testing.T, z api.Ratio, want bool) {
	t.Helper()
	if got, e := Positive(z); got != want || e != api.OK {
		t.Errorf("Positive(%v): %t, %d, want %t", z, got, e, want)
	}
}

func wantAllPositive(t *testing.T, want bool, texts ...string) {
	t.Helper()
	for _, text := range texts {
		wantPositive(t, ratio(text), want)
	}
}

func wantLadder(t *testing.T, z api.Ratio, kind int, want []api.Q) {
	t.Helper()
	if got, e := Ladder(z, kind); !slices.Equal(got, want) || e != api.OK {
		t.Errorf("Ladder(%v, %d): %v, %d, want %v", z, kind, got, e, want)
	}
}

func wantBuild(t *testing.T, l []api.Q, kind int, want api.Net) {
	t.Helper()
	if got, e := Build(l, kind); !reflect.DeepEqual(got, want) || e != api.OK {
		t.Errorf("Build(%v, %d): %v, %d, want %v", l, kind, got, e, want)
	}
}

// wantNotPositive, wantNoLadder and wantNoBuild ask for an error, and that nothing else is told.
func wantNotPositive(t *testing.T, z api.Ratio, want api.Errno) {
	t.Helper()
	if got, e := Positive(z); got || e != want {
		t.Errorf("Positive(%q): %t, %d, want %d", z, got, e, want)
	}
}

func wantNoLadder(t *testing.T, z api.Ratio, kind int, want api.Errno) {
	t.Helper()
	if got, e := Ladder(z, kind); got != nil || e != want {
		t.Errorf("Ladder(%q, %d): %v, %d, want %d and nothing else", z, kind, got, e, want)
	}
}

func wantNoBuild(t *testing.T, l []api.Q, kind int, want api.Errno) {
	t.Helper()
	if got, e := Build(l, kind); got.Nodes != 0 || got.Parts != nil || e != want {
		t.Errorf("Build(%q, %d): %v, %d, want %d and nothing else", l, kind, got, e, want)
	}
}

func TestPositiveNumbers(t *testing.T) {
	wantAllPositive(t, true, "1|1", "2/3|5", "-1|-2", "|1", "|-3", "0 0|7 0", "|0 1", "1/1000000000000|1")
	wantAllPositive(t, false, "-1|1", "1|-1", "-2/3|5", "-1/1000000000000|1")
}

func TestPositiveOneRoot(t *testing.T) {
	// Noughts and poles on the left, and in the middle.
	wantAllPositive(t, true, "0 1|1", "0 3/2|1", "1 1|1", "5 1/3|2", "1|0 1", "2|0 3", "1|1 1", "0 1|1 1", "1 1|0 1", "1 1|2 1", "2 1|1 1", "2 3|1/5 1/7", "-1 -1|-2 -1")
	// On the right.
	wantAllPositive(t, false, "-1 1|1", "1|-1 1", "-1 1|1 1", "1 1|-1 1", "1 1|-2 1", "1 -1|1 1", "0 1|-1 1", "-1 1|0 1", "1 -1|0 1", "-1 1|-2 1")
	// In the middle and on the left, but below 0.
	wantAllPositive(t, false, "0 -1|1", "-1|0 1", "-1|1 1", "-1 -1|1", "0 -1|1 1", "-1 -1|2 1", "1 1|-2 -1", "-1 -1|0 1")
}

func TestPositiveOnTheRight(t *testing.T) {
	wantAllPositive(t, false,
		"2 -3 1|2 3 1", "2 3 1|2 -3 1", "-2 1 1|2 3 1", "2 3 1|-2 1 1", // real noughts and poles: both, one of both
		"2 -2 1|2 2 1", "2 2 1|2 -2 1", "1 -1 1|1 -1 1 -1/2", // complex ones
		"1 1 1|1 1 0 1", "1 1 0 1|1 1 1", // s s s + s + 1 has two there
		"1 -2 1|1 2 1", "1 2 1|1 -2 1", // both more than once
	)
	// Far out on the left, and just on the right.
	wantAllPositive(t, false, "1 1000000|-1/1000000 1", "-1/1000000 1|1 1000000")
}

// Poles in the middle must be those of terms like s/(s s + 1), 1/s and s, with a number above 0 ahead of each; so must those of 1 over z.
func TestPositiveInTheMiddle(t *testing.T) {
	wantAllPositive(t, true, "1 0 1|0 1", "0 1|1 0 1", "0 2 0 1|1 0 1", "1 0 1|0 2 0 1", "3 0 4 0 1|0 2 0 1", "1 0 1|1 1 1", "1 1 1|1 0 1", "1 2 1|1 0 1", "1 1|0 2 1", "0 2 1|1 1", "0 1 1|1 1 1")
	// With one below 0 ahead: noughts and poles that don't take turns, and other signs.
	wantAllPositive(t, false, "-1 0 1|0 1", "0 1|-1 0 1", "0 1 0 1|2 0 1", "2 0 1|0 1 0 1", "1 0 1|0 -1", "0 -1|1 0 1", "2 0 3 0 1|0 3 0 1", "1 0 1|2 0 1")
	// With none that is real.
	wantAllPositive(t, false, "1 1|1 0 1", "1 0 1|1 1", "1|1 0 1", "1 0 1|1", "-1 1|1 0 1", "2 1 1|1 0 1")
}

func TestPositiveOfRootsThatComeOften(t *testing.T) {
	// In the middle: 0, then i and -i.
	wantAllPositive(t, false, "1|0 0 1", "0 0 1|1", "1|0 0 0 1", "0 0 0 1|1", "1 1|0 0 1", "0 0 1|1 1", "1 2 1|0 0 1", "0 0 1|1 2 1", "0 1|1 0 2 0 1", "1 0 2 0 1|0 1", "1 1 2 0 1|1 0 2 0 1", "1 0 2 0 1|1 1 2 0 1")
	// On the left: (s + 2) over (s + 1), squared, is; that of s + 10 and the third power aren't; nor is 1 over a square.
	wantAllPositive(t, true, "4 4 1|1 2 1", "1 2 1|4 4 1", "2 3 1|1 2 1", "1 2 1|2 3 1", "1 3 3 1|1 2 1", "1 2 1|1 3 3 1", "0 1 1|1 2 1")
	wantAllPositive(t, false, "100 20 1|1 2 1", "1000 300 30 1|1 3 3 1", "1|1 2 1", "1 2 1|1", "1 3 3 1|1", "1|1 3 3 1", "1 4 6 4 1|8 12 6 1 0")
}

// (s s + a s + b b) over (s s + c s + d d): the real part is nowhere below 0 if (b - d) squared isn't above a c; if it is just that, it is 0 where w w is b d.
func TestPositiveWhereTheRealPartIsZeroSomewhere(t *testing.T) {
	wantAllPositive(t, true, "4 1 1|1 1 1", "1 1 1|4 1 1", "9 4 1|1 1 1", "9 1 1|1 4 1", "1 0 1|1 5 1", "1 5 1|1 0 1", "1/4 1/6 1|4/9 1/6 1")
	wantAllPositive(t, true, "4 1000001/1000000 1|1 1 1", "9 4 1|1 1000001/1000000 1")
	wantAllPositive(t, false, "4 999999/1000000 1|1 1 1", "9 4 1|1 999999/1000000 1", "9 3 1|1 1 1", "1 0 1|4 5 1", "1/4 1/6 1|4/9 1/7 1")
	// 0 where nothing changes, and far out.
	wantAllPositive(t, true, "0 1|1 1", "0 1 1|1 1 1", "1|1 1", "1 1|1 1 1", "1 1 2|1 1 1 1")
	wantAllPositive(t, false, "1 999999/1000000|1 1 1", "1 0 1|1 1 1 2", "0 999999/1000000 1|1 1 1")
	// At two places: the real part is ((w w - 1)(w w - 4)) squared over what is above 0; with a little less it isn't any more.
	wantAllPositive(t, true, "4 0 5 0 1|4 4 5 2 1", "4 4 5 2 1|4 0 5 0 1")
	wantAllPositive(t, false, "4 -1/1000 5 0 1|4 4 5 2 1", "4 4 5 2 1|4 0 5 -1/1000 1")
}

func TestPositiveWhereTheRealPartIsZeroEverywhere(t *testing.T) {
	wantAllPositive(t, true, "0 1|1", "1|0 1", "1 0 1|0 1", "0 4 0 1|3 0 1", "9 0 10 0 1|0 4 0 1", "0 4 0 1|9 0 10 0 1", "|1")
	wantAllPositive(t, false, "0 -1|1", "-1|0 1", "0 0 0 1|1", "1|0 0 0 1", "-1 0 1|0 1", "0 4 0 1|5 0 1", "9 0 10 0 1|0 10 0 1", "9 0 10 0 1|0 1/2 0 1", "0 -4 0 1|-3 0 1", "1 0 0 0 1|0 1")
}

func TestPositiveBeyondAllBounds(t *testing.T) {
	wantAllPositive(t, true, "1 1 1|1 1", "2 2 1|0 1", "1 3 1|2 1", "0 2 1|1 1 0", "1 2 1 1|1 1 1")
	wantAllPositive(t, false, "0 0 1|1", "1 1 1|1", "0 0 0 1|1 1", "0 0 1|1 1 0", "-2 0 1|1 1 0", "1 1 -1|1 1", "0 0 0 0 0 0 0 0 0 0 0 0 1|1", "1|0 0 0 0 0 0 0 0 0 0 0 0 1", "0 0 1|2 1 0 0", "1 1 1 2|1 1 1 0")
}

// What both share is no nought and no pole, wherever it lies.
func TestPositiveOfCommonDivisors(t *testing.T) {
	wantAllPositive(t, true, "-1 1|-1 1", "-1 0 1|-2 1 1", "0 0 1|0 1", "0 1|0 0 1", "0 0 0 1|0 0 1", "1 0 2 0 1|0 1 0 1", "1 0 1|1 0 1", "-2 2|-3 3", "1 -2 1|2 -4 2", "0 1 0 1|0 2 0 2")
	wantAllPositive(t, false, "-1 1|1 -1", "-1 0 1|2 -3 1", "0 0 0 1|0 1", "0 -1|0 1", "1 -1|-2 2")
}

func TestPositiveInLongNumbers(t *testing.T) {
	one := "1" + strings.Repeat("0", 200)
	more, less := one[:200]+"1", strings.Repeat("9", 200)
	// s s + a s + one one over s s + s + 1: just positive real where a is (one - 1) squared; what is a little less isn't.
	square, most := one+strings.Repeat("0", 200), strings.Repeat("9", 199)+"8"+strings.Repeat("0", 199)
	wantAllPositive(t, true, square+" "+most+"1 1|1 1 1", square+" "+most+"2 1|1 1 1", "1 1 1|"+square+" "+most+"1 1")
	wantAllPositive(t, false, square+" "+most+"0 1|1 1 1", "1 1 1|"+square+" "+most+"0 1")
	// The last digit tells the side.
	wantAllPositive(t, true, one+" "+more+"|"+less+" 3", "1/"+one+" 1|1/"+more+" 1", "1|"+one+" "+more)
	wantAllPositive(t, false, "-1/"+one+" 1|1/"+more+" 1", "1|-1/"+one+" "+more, "1 1/"+one+"|1 -1/"+more)
	wantAllPositive(t, true, one+" 0 1|0 1", one+" "+one+" 1 1|"+one+" 0 1", one+" "+more+" 1 1|"+one+" 0 1", "0 "+more+" 0 1|"+one+" 0 1")
	wantAllPositive(t, false, "0 "+less+" 0 1|"+one+" 0 1", one+" "+less+" 1 1|"+one+" 0 1")
}

func TestLadderOfInductors(t *testing.T) {
	for text, want := range map[string]string{
		"1 0 1|0 1": "1 1", "0 1|1 0 1": "0 1 1", "0 2 0 1|1 0 1": "1 1 1", "1 0 1|0 2 0 1": "0 1 1 1",
		// One value, and one across.
		"0 3|1": "3", "0 3|7": "3/7", "1|0 2": "0 2", "-3|0 -2": "0 2/3",
		// Textbooks' ones.
		"3 0 4 0 1|0 2 0 1": "1 1/2 4 1/6", "0 2 0 1|3 0 4 0 1": "0 1 1/2 4 1/6", "0 4 0 1|3 0 1": "1 1 1/3", "9 0 10 0 1|0 4 0 1": "1 1/6 12/5 5/18", "27 0 30 0 3|0 4 0 1": "3 1/18 36/5 5/54",
	} {
		wantLadder(t, ratio(text), api.L, words(want))
	}
}

func TestLadderOfResistors(t *testing.T) {
	for text, want := range map[string]string{
		"3 4 1|0 2 1": "1 1/2 4 1/6", "2 1|0 1": "1 1/2", "2 1|1 1": "1 1 1", "1|1 1": "0 1 1", "1 1|0 2 1": "0 1 1 1", "16 12 2|3 4 1": "2 1/4 8/3 3/4 2/3",
		// One value, and one across.
		"5|1": "5", "-2|-6": "1/3", "1|0 1": "0 1", "7|0 2": "0 2/7",
		"8 6 1|3 4 1": "1 1/2 4/3 3/2 1/3",
	} {
		wantLadder(t, ratio(text), api.R, words(want))
	}
}

// Beyond all bounds the rest grows faster than s, or, of R, at all: first, later along, and across.
func TestLadderWhoseRestIsInfinite(t *testing.T) {
	for _, text := range []string{
		"0 0 1|1", "1 0 0 1|1", "0 0 0 1|1 1", // at once
		"1|0 0 1", "1|0 0 0 1", "1|1 0 1", // across, behind 0
		"1 0 0 0 1|0 0 0 1", "1 0 0 1|0 0 1", // across, behind a value
		"0 0 0 0 1|1 0 0 1 0 1", "0 0 0 1|1 0 0 0 1", // along, behind both
	} {
		wantNoLadder(t, ratio(text), api.L, api.ErrNone)
	}
	for _, text := range []string{
		"0 1|1", "1 1|1", "0 0 1|1", "1 0 1|0 1", // at once
		"1|0 0 1", "1|1 0 1", "2 0 1|1 0 1", "1 0 0 1|0 0 0 1", // across
		"0 1|1 0 1", "1 1 1|1 0 1", "0 1 1|1 1 1", // along
	} {
		wantNoLadder(t, ratio(text), api.R, api.ErrNone)
	}
}

func TestLadderWithValuesBelowZero(t *testing.T) {
	for _, text := range []string{"0 -1|1", "-1 0 1|0 1", "-1|0 1", "0 -1|1 0 1", "0 1|-1 0 -1", "0 1|-1 0 1", "0 1 0 1|2 0 1", "0 4 0 1|5 0 1", "9 0 10 0 1|0 1/2 0 1"} {
		wantNoLadder(t, ratio(text), api.L, api.ErrNone)
	}
	for _, text := range []string{"-5|1", "1|-2", "-1|0 1", "1 1|2 1", "-1 1|0 1", "1|-1 1", "1 -1|1 1", "3 4 1|8 6 1", "0 1|1 1", "3 4 1|0 4 1", "-1/1000000 1|0 1"} {
		wantNoLadder(t, ratio(text), api.R, api.ErrNone)
	}
}

// Only the first value may be 0. Of R no other one ever is: each rest but the first is infinite there, or isn't 0.
func TestLadderWithValuesThatAreZero(t *testing.T) {
	for _, text := range []string{
		"1|1", "5/3|1", "1 1|2 1", "1 1 1|1 1 1 0 1", // across, behind 0
		"1 1|1", "1 1 1|0 1", "1 1 1|1 1", // across, behind a value
		"1|1 1", "0 1|1 1 1", // along
	} {
		wantNoLadder(t, ratio(text), api.L, api.ErrNone)
	}
}

func TestLadderOfFractionsNotInLowestTerms(t *testing.T) {
	for text, want := range map[string]string{
		"2/4 0 1/2|0 02/4": "1 1", "1 1 1 1|0 1 1": "1 1", "-1 1 -1 1|0 -1 1": "1 1", "1 0 2 0 1|0 1 0 1": "1 1", "0 1 0 1|0 0 1": "1 1",
		"-6 0 -6|0 -6": "1 1", "1 0 1 0 0 x|0 1 1/0": "1 1", "0 0 3|0 1": "3", "1 2 1|0 1 1 0": "",
	} {
		if want == "" {
			wantNoLadder(t, ratio(text), api.L, api.ErrNone)
			continue
		}
		wantLadder(t, ratio(text), api.L, words(want))
	}
	for text, want := range map[string]string{"3 4 1|0 2 1 0 -0": "1 1/2 4 1/6", "6 8 2|0 4 2": "1 1/2 4 1/6", "6 11 6 1|0 4 4 1": "1 1/2 4 1/6", "0 5|0 1": "5", "-2 1 1|-1 0 1": "1 1 1", "5 0 10 0 5|1 0 2 0 1": "5"} {
		wantLadder(t, ratio(text), api.R, words(want))
	}
}

// someValues are as many as are asked for, all above 0.
func someValues(many int) []api.Q {
	var out []api.Q
	for i := range many {
		out = append(out, words("2 1/3 1 5/2 7")[i%5])
	}
	return out
}

// As many values as there can be: of L 12, or 13 with a first one that is 0; of R 25.
func TestLadderOfAsManyValuesAsThereCanBe(t *testing.T) {
	most := api.MaxDegree
	for _, c := range []struct {
		kind, up, down int
		l              []api.Q
	}{
		{api.L, most, most - 1, someValues(most)},
		{api.L, most - 1, most, append(words("0"), someValues(most)...)},
		{api.R, most, most, someValues(2*most + 1)},
		{api.R, most - 1, most, append(words("0"), someValues(2*most)...)},
		{api.R, most, most, someValues(2 * most)},
	} {
		z := seenAs(c.l, c.kind).ratio()
		if len(z.Up)-1 != c.up || len(z.Down)-1 != c.down {
			t.Fatalf("%v is seen as %v", c.l, z)
		}
		wantLadder(t, z, c.kind, c.l)
		wantPositive(t, z, true)
	}
}

func TestLadderOfZero(t *testing.T) {
	for _, text := range []string{"|1", "0|1", "0 0 0|0 1", "x 1/0 -0|5", "|0 0 1"} {
		wantNoLadder(t, ratio(text), api.L, api.ErrForm)
		wantNoLadder(t, ratio(text), api.R, api.ErrForm)
		// The kind goes ahead.
		wantNoLadder(t, ratio(text), api.C, api.ErrKind)
	}
}

func otherKinds() []int {
	return []int{0, -1, api.C, api.V, api.I, api.E, api.G, api.D, 9, 100, math.MaxInt, math.MinInt}
}

func TestNoSuchKind(t *testing.T) {
	for _, kind := range otherKinds() {
		wantNoLadder(t, ratio("1 0 1|0 1"), kind, api.ErrKind)
		wantNoLadder(t, ratio("-1|1"), kind, api.ErrKind)
		wantNoBuild(t, words("1 1"), kind, api.ErrKind)
		// Ahead of all else that is wrong with values.
		wantNoBuild(t, nil, kind, api.ErrKind)
		wantNoBuild(t, make([]api.Q, api.MaxDegree+1), kind, api.ErrKind)
		wantNoBuild(t, words("-1"), kind, api.ErrKind)
	}
}

func TestErrorsOfRatios(t *testing.T) {
	most := make([]api.Q, api.MaxDegree+1)
	full := slices.Repeat([]api.Q{"1"}, api.MaxDegree+1)
	long := append(words("1"), most...)
	for want, wrong := range map[api.Errno][]api.Ratio{
		api.ErrMany: {
			{Up: long, Down: full}, {Up: full, Down: long}, {Up: long, Down: long}, {Up: slices.Repeat([]api.Q{"1"}, api.MaxDegree+2), Down: words("1")},
			{Up: words("1"), Down: slices.Repeat([]api.Q{"x"}, 1000)},
			// Ahead of what is divided by 0, and of z being 0.
			{Up: long}, {Down: make([]api.Q, api.MaxDegree+2)}, {Up: make([]api.Q, api.MaxDegree+2), Down: words("1")},
		},
		api.ErrZero: {{}, {Up: words("1")}, {Up: words("1"), Down: []api.Q{}}, {Up: full, Down: most}, ratio("1|0"), ratio("|0 0"), ratio("1 0 1|x 1/0 + 1.5 0/3 -0 --1")},
	} {
		for _, z := range wrong {
			wantNotPositive(t, z, want)
			// All of these go ahead of the kind.
			for _, kind := range append(otherKinds(), api.L, api.R) {
				wantNoLadder(t, z, kind, want)
			}
		}
	}
	// As many as may be.
	wantPositive(t, api.Ratio{Up: most, Down: full}, true)
	wantPositive(t, api.Ratio{Up: full, Down: full}, true)
	wantPositive(t, api.Ratio{Up: append(words("1 1"), most[2:]...), Down: append(words("2 1"), most[2:]...)}, true)
	wantLadder(t, api.Ratio{Up: append(words("1 0 1"), most[3:]...), Down: append(words("0 1"), most[2:]...)}, api.L, words("1 1"))
	wantLadder(t, api.Ratio{Up: full, Down: full}, api.R, words("1"))
}

// What is no fraction is 0 wherever it stands.
func TestNumbersThatAreNoFractions(t *testing.T) {
	for _, nought := range []api.Q{"", "x", "1/0", "+1", "1.5", " 1", "1/2/3", "--1", "1/-1", "0x1", "-", "/", "1/", "\xff", "١"} {
		wantPositive(t, api.Ratio{Up: []api.Q{"1", nought, "1"}, Down: []api.Q{nought, "1", nought}}, true)
		wantPositive(t, api.Ratio{Up: []api.Q{"1", nought, "1"}, Down: []api.Q{"1", nought, nought}}, false)
		wantPositive(t, api.Ratio{Up: []api.Q{nought}, Down: []api.Q{"-1"}}, true)
		wantLadder(t, api.Ratio{Up: []api.Q{"1", nought, "1"}, Down: []api.Q{nought, "1", nought}}, api.L, words("1 1"))
		wantNoLadder(t, api.Ratio{Up: []api.Q{nought, nought}, Down: words("1")}, api.R, api.ErrForm)
		wantBuild(t, []api.Q{nought, "2"}, api.R, netOf(2, part(api.C, 1, 0, "2")))
		wantNoBuild(t, []api.Q{nought}, api.L, api.ErrValue)
		wantNoBuild(t, []api.Q{"1", nought}, api.L, api.ErrValue)
	}
}

func TestBuild(t *testing.T) {
	for _, kind := range []int{api.L, api.R} {
		// One value.
		wantBuild(t, words("5"), kind, netOf(2, part(kind, 1, 0, "5")))
		// The last one across.
		wantBuild(t, words("2 3"), kind, netOf(3, part(kind, 1, 2, "2"), part(api.C, 2, 0, "3")))
		wantBuild(t, words("2 3 5 7"), kind, netOf(4, part(kind, 1, 2, "2"), part(api.C, 2, 0, "3"), part(kind, 2, 3, "5"), part(api.C, 3, 0, "7")))
		// The last one along.
		wantBuild(t, words("2 3 5"), kind, netOf(3, part(kind, 1, 2, "2"), part(api.C, 2, 0, "3"), part(kind, 2, 0, "5")))
		wantBuild(t, words("2 3 5 7 11"), kind, netOf(4, part(kind, 1, 2, "2"), part(api.C, 2, 0, "3"), part(kind, 2, 3, "5"), part(api.C, 3, 0, "7"), part(kind, 3, 0, "11")))
		// A first one that is 0.
		wantBuild(t, words("0 3"), kind, netOf(2, part(api.C, 1, 0, "3")))
		wantBuild(t, words("0 1 2"), kind, netOf(2, part(api.C, 1, 0, "1"), part(kind, 1, 0, "2")))
		wantBuild(t, words("0 1 2 3"), kind, netOf(3, part(api.C, 1, 0, "1"), part(kind, 1, 2, "2"), part(api.C, 2, 0, "3")))
		// Not in lowest terms.
		wantBuild(t, words("-0 010/4 6/3 0009"), kind, netOf(3, part(api.C, 1, 0, "5/2"), part(kind, 1, 2, "2"), part(api.C, 2, 0, "9")))
		wantBuild(t, words("12/8"), kind, netOf(2, part(kind, 1, 0, "3/2")))
		wantBuild(t, []api.Q{"0/5", api.Q(strings.Repeat("4", 500) + "/" + strings.Repeat("2", 500))}, kind, netOf(2, part(api.C, 1, 0, "2")))
	}
}

// As many values as may be need as many nodes as a net may have.
func TestBuildOfAsManyValuesAsMayBe(t *testing.T) {
	for _, kind := range []int{api.L, api.R} {
		l := someValues(api.MaxDegree)
		want := api.Net{Nodes: 8}
		for i, value := range l {
			here := 1 + (i+1)/2
			if i%2 == 0 {
				want.Parts = append(want.Parts, part(kind, here, here+1, value))
			} else {
				want.Parts = append(want.Parts, part(api.C, here, 0, value))
			}
		}
		wantBuild(t, l, kind, want)
		if f := net.Check(want); f != (api.Fault{}) {
			t.Errorf("%v: %v", want, f)
		}
		l[0] = "0"
		got, e := Build(l, kind)
		if e != api.OK || got.Nodes != 7 || len(got.Parts) != api.MaxDegree-1 {
			t.Errorf("Build(%v): %v, %d", l, got, e)
		}
	}
}

func TestBuildOfTooManyValuesAndOfNone(t *testing.T) {
	for _, kind := range []int{api.L, api.R} {
		wantNoBuild(t, nil, kind, api.ErrMany)
		wantNoBuild(t, []api.Q{}, kind, api.ErrMany)
		wantNoBuild(t, someValues(api.MaxDegree+1), kind, api.ErrMany)
		wantNoBuild(t, append(words("0"), someValues(api.MaxDegree)...), kind, api.ErrMany)
		wantNoBuild(t, someValues(1000), kind, api.ErrMany)
		// Ahead of values that may not be.
		wantNoBuild(t, slices.Repeat([]api.Q{"-1"}, api.MaxDegree+1), kind, api.ErrMany)
	}
}

func TestBuildOfValuesThatMayNotBe(t *testing.T) {
	for _, kind := range []int{api.L, api.R} {
		for _, text := range []string{"0", "-1", "-0", "1/0", "-1 1", "-1/3 2 3", "1 0", "1 -1", "0 0", "0 0 1", "0 -1", "1 1 0", "1 0 1", "1 1 -2", "0 1 0", "1 2 3 4 0/7", "4/6 1 -3/-1"} {
			wantNoBuild(t, words(text), kind, api.ErrValue)
		}
		for place := range api.MaxDegree {
			l := someValues(api.MaxDegree)
			l[place] = "-1/1000000000000"
			wantNoBuild(t, l, kind, api.ErrValue)
			if l[place] = "0"; place > 0 {
				wantNoBuild(t, l, kind, api.ErrValue)
			}
		}
	}
}

// What is handed in is only read, the spare room behind it, too; what is told is new.
func TestNothingIsChangedOrKept(t *testing.T) {
	up, down, l := words("9 0 20/2 0 1 0 7"), words("0 4 0 1 0 9"), words("0 2/4 3 9 8")
	z := api.Ratio{Up: up[:6], Down: down[:5]}
	for range 2 {
		wantPositive(t, z, true)
		wantLadder(t, z, api.L, words("1 1/6 12/5 5/18"))
		wantBuild(t, l[:3], api.R, netOf(2, part(api.C, 1, 0, "1/2"), part(api.R, 1, 0, "3")))
		if !slices.Equal(up, words("9 0 20/2 0 1 0 7")) || !slices.Equal(down, words("0 4 0 1 0 9")) || !slices.Equal(l, words("0 2/4 3 9 8")) {
			t.Fatalf("changed to %v, %v, %v", up, down, l)
		}
		values, _ := Ladder(z, api.L)
		for i := range values {
			values[i] = "x"
		}
		n, _ := Build(l[:3], api.R)
		for i := range n.Parts {
			n.Parts[i] = api.Part{}
		}
	}
}
