package line

import (
	"math"
	"slices"
	"strings"
	"testing"

	"voltaic/api"
)

// word is a text as it stands; _ is the empty one.
func word(text string) api.Q {
	if text == "_" {
		return ""
	}
	return api.Q(text)
}

func words(text string) []api.Q {
	var out []api.Q
	for _, w := range strings.Fields(text) {
		out = append(out, word(w))
	}
	return out
}

// turning reads a complex fraction from two words: "1/2 -3" is 1/2 - 3 i.
func turning(text string) api.Z {
	l := words(text)
	return api.Z{Re: l[0], Im: l[1]}
}

// call is Reflect or Ends.
type call func(api.Z, api.Q) (api.Z, api.Errno)

// row is what a call is given, and what is asked of it.
type row struct{ given, z0, want string }

func wantRows(t *testing.T, c call, rows ...row) {
	t.Helper()
	for _, r := range rows {
		if got, e := c(turning(r.given), word(r.z0)); got != turning(r.want) || e != api.OK {
			t.Errorf("of %s, %s: %v, %d, want %s", r.given, r.z0, got, e, r.want)
		}
	}
}

// wantNone, wantNoAlong and wantNoBounce ask for an error, and that nothing else is told.
func wantNone(t *testing.T, c call, given, z0 string, want api.Errno) {
	t.Helper()
	if got, e := c(turning(given), word(z0)); got != (api.Z{}) || e != want {
		t.Errorf("of %s, %s: %q, %d, want %d and nothing else", given, z0, got, e, want)
	}
}

func wantAlong(t *testing.T, z, z0, u, want string) {
	t.Helper()
	if got, e := Along(turning(z), word(z0), turning(u)); got != turning(want) || e != api.OK {
		t.Errorf("Along(%s, %s, %s): %v, %d, want %s", z, z0, u, got, e, want)
	}
}

func wantNoAlong(t *testing.T, z, z0, u string, want api.Errno) {
	t.Helper()
	if got, e := Along(turning(z), word(z0), turning(u)); got != (api.Z{}) || e != want {
		t.Errorf("Along(%s, %s, %s): %q, %d, want %d and nothing else", z, z0, u, got, e, want)
	}
}

// bounce takes v, rs, z0 and rl from one text.
func bounce(given string, steps int) ([]api.Q, api.Errno) {
	l := words(given)
	return Bounce(l[0], l[1], l[2], l[3], steps)
}

func wantBounce(t *testing.T, given string, steps int, want string) {
	t.Helper()
	if got, e := bounce(given, steps); !slices.Equal(got, words(want)) || e != api.OK {
		t.Errorf("Bounce(%s, %d): %v, %d, want %s", given, steps, got, e, want)
	}
}

func wantNoBounce(t *testing.T, given string, steps int, want api.Errno) {
	t.Helper()
	if got, e := bounce(given, steps); got != nil || e != want {
		t.Errorf("Bounce(%s, %d): %v, %d, want %d and nothing else", given, steps, got, e, want)
	}
}

// Ten to the power of 50, and neighbours of it.
const (
	noughts = "00000000000000000000000000000000000000000000000000"
	ten50   = "1" + noughts
	less1   = "99999999999999999999999999999999999999999999999999"
	half1   = "49999999999999999999999999999999999999999999999999" // half of it, less 1
	more1   = "100000000000000000000000000000000000000000000000001"
)

func TestReflectOfRealOnes(t *testing.T) {
	wantRows(t, Reflect,
		row{"100 0", "50", "1/3 0"}, row{"25 0", "50", "-1/3 0"}, row{"2/3 0", "1/2", "1/7 0"}, row{"150 0", "50", "1/2 0"},
		row{"50 0", "50", "0 0"}, row{"0 0", "50", "-1 0"},
		row{"-25 0", "50", "-3 0"}, row{"-100 0", "50", "3 0"}, row{"-49 0", "50", "-99 0"},
	)
}

func TestReflectOfImaginaryOnes(t *testing.T) {
	wantRows(t, Reflect,
		row{"0 50", "50", "0 1"}, row{"0 -50", "50", "0 -1"}, row{"0 2", "1", "3/5 4/5"}, row{"0 -2", "1", "3/5 -4/5"}, row{"0 1/2", "1", "-3/5 4/5"},
	)
}

func TestReflectOfComplexOnes(t *testing.T) {
	wantRows(t, Reflect,
		row{"1 1", "1", "1/5 2/5"}, row{"1 -1", "1", "1/5 -2/5"}, row{"100 50", "50", "2/5 1/5"}, row{"3/2 1/3", "5/4", "23/221 24/221"}, row{"1/3 -2/7", "3/11", "1579/5989 -2079/5989"},
		row{"-3/2 2", "7/2", "-3/4 7/4"}, row{"-2 -3", "5", "-2/3 -5/3"},
		row{"-1 1", "1", "1 2"}, row{"-50 10", "50", "1 10"}, // only their real parts are -z0
	)
}

func TestReflectOfTextsInOtherForms(t *testing.T) {
	wantRows(t, Reflect,
		row{"200/2 0/7", "0050", "1/3 0"}, row{"-0 4/2", "3/3", "3/5 4/5"}, row{"0010/05 -0/3", "100/100", "1/3 0"}, row{"-6/4 8/4", "14/4", "-3/4 7/4"},
	)
}

func TestReflectCountsWhatIsNoFractionAsZero(t *testing.T) {
	wantRows(t, Reflect,
		row{"_ _", "1", "-1 0"}, row{"x 2", "1", "3/5 4/5"}, row{"2 x", "1", "1/3 0"}, row{"1.5 0", "1", "-1 0"}, row{"+3 0", "1", "-1 0"},
		row{"3/-1 0", "1", "-1 0"}, row{"3/0 2/0", "1", "-1 0"}, row{"3/ /4", "1", "-1 0"}, row{"--3 0", "1", "-1 0"}, row{"Ω 2", "1", "3/5 4/5"}, row{"1/2/3 2", "1", "3/5 4/5"},
	)
}

func TestReflectOfLongOnes(t *testing.T) {
	wantRows(t, Reflect,
		row{ten50 + " 0", "1", less1 + "/" + more1 + " 0"}, row{"1 0", ten50, "-" + less1 + "/" + more1 + " 0"}, row{less1 + " 0", "1", half1 + "/5" + noughts[1:] + " 0"},
		row{"0 " + ten50, ten50, "0 1"}, row{ten50 + " " + ten50, ten50, "1/5 2/5"}, row{"1/" + ten50 + " 1/" + ten50, "1/" + ten50, "1/5 2/5"},
	)
}

func TestReflectOfWrongInputs(t *testing.T) {
	for _, z0 := range words("0 -1 -50 -1/3 -0 0/5 5/0 _ x 1.5 +1") {
		wantNone(t, Reflect, "1 1", string(z0), api.ErrValue)
		wantNone(t, Reflect, "0 0", string(z0), api.ErrValue)
	}
	wantNone(t, Reflect, "50 0", "-50", api.ErrValue) // z is -z0, too
	wantNone(t, Reflect, "-50 0", "50", api.ErrZero)
	wantNone(t, Reflect, "-50 x", "50", api.ErrZero)
	wantNone(t, Reflect, "-4/6 0/3", "2/3", api.ErrZero)
	wantNone(t, Reflect, "-"+ten50+" -0", ten50, api.ErrZero)
}

func TestEndsOfRealOnes(t *testing.T) {
	wantRows(t, Ends,
		row{"1/3 0", "50", "100 0"}, row{"-1/3 0", "50", "25 0"}, row{"1/7 0", "1/2", "2/3 0"},
		row{"0 0", "50", "50 0"}, row{"-1 0", "50", "0 0"},
		row{"2 0", "50", "-150 0"}, row{"-3 0", "50", "-25 0"}, row{"3 0", "50", "-100 0"},
	)
}

func TestEndsOfImaginaryOnes(t *testing.T) {
	wantRows(t, Ends, row{"0 1", "50", "0 50"}, row{"0 -1", "50", "0 -50"}, row{"0 1/2", "5/2", "3/2 2"}, row{"0 -1/2", "5/2", "3/2 -2"})
}

func TestEndsOfComplexOnes(t *testing.T) {
	wantRows(t, Ends,
		row{"3/5 4/5", "1", "0 2"}, row{"1/5 2/5", "1", "1 1"}, row{"1/2 -1/3", "6/7", "138/91 -144/91"}, row{"-2 3", "1/4", "-1/6 1/12"},
		row{"1 1", "2", "-2 4"}, row{"1 -2", "3", "-3 -3"}, // only their real parts are 1
	)
}

func TestEndsOfTextsInOtherForms(t *testing.T) {
	wantRows(t, Ends,
		row{"2/6 0/7", "0050", "100 0"}, row{"-0 2/4", "10/4", "3/2 2"}, row{"06/10 0008/10", "7/7", "0 2"},
		row{"_ _", "50", "50 0"}, row{"1. 1/2", "5/2", "3/2 2"}, row{"2 i", "50", "-150 0"}, row{"1/0 1/0", "3", "3 0"}, row{"+1 0", "3", "3 0"}, row{"1/1/1 0", "3", "3 0"},
	)
}

func TestEndsOfLongOnes(t *testing.T) {
	wantRows(t, Ends,
		row{less1 + "/" + more1 + " 0", "1", ten50 + " 0"}, row{"-" + less1 + "/" + more1 + " 0", ten50, "1 0"},
		row{"0 1", ten50, "0 " + ten50}, row{"1 1/" + ten50, "1", "-1 2" + noughts},
	)
}

func TestEndsOfWrongInputs(t *testing.T) {
	for _, z0 := range words("0 -1 -50 -1/3 -0 0/5 5/0 _ x 1.5 +1") {
		wantNone(t, Ends, "1/2 1", string(z0), api.ErrValue)
		wantNone(t, Ends, "1 0", string(z0), api.ErrValue) // g is 1, too
	}
	wantNone(t, Ends, "1 0", "50", api.ErrZero)
	wantNone(t, Ends, "1 _", "50", api.ErrZero)
	wantNone(t, Ends, "7/7 -0/3", "1/2", api.ErrZero)
	wantNone(t, Ends, ten50+"/"+ten50+" 0", "1/2", api.ErrZero)
}

func TestAlongIsOneOverAfterAQuarter(t *testing.T) {
	wantAlong(t, "100 0", "50", "-1 0", "25 0")
	wantAlong(t, "50 0", "50", "-1 0", "50 0")
	wantAlong(t, "1 1", "1", "-1 0", "1/2 -1/2")
	wantAlong(t, "0 2", "1", "-1 0", "0 -1/2")
	wantAlong(t, "-2 0", "1", "-1 0", "-1/2 0")
}

func TestAlongIsTheSameAfterAHalf(t *testing.T) {
	for _, z := range []string{"100 0", "0 0", "0 7", "3/4 -5/6", "-1 1", "-3 0"} {
		wantAlong(t, z, "50", "1 0", z)
	}
}

func TestAlongTurned(t *testing.T) {
	wantAlong(t, "100 0", "50", "0 1", "40 30")
	wantAlong(t, "100 0", "50", "0 -1", "40 -30")
	wantAlong(t, "100 0", "50", "3/5 4/5", "125/2 75/2")
	wantAlong(t, "1 1", "1", "5/13 -12/13", "13/5 -1/5")
	wantAlong(t, "2/3 -1/2", "7/5", "-20/29 21/29", "1392/409 183/2045")
	wantAlong(t, "-3 1", "2", "-3/5 -4/5", "-5/3 -1")
	wantAlong(t, "0 0", "50", "0 1", "0 -50")
	wantAlong(t, "0 0", "50", "3/5 4/5", "0 -25")
	wantAlong(t, "0 2", "1", "0 1", "0 1/3")
	wantAlong(t, "50 0", "50", "3/5 4/5", "50 0") // nothing goes back
}

func TestAlongOfTextsInOtherForms(t *testing.T) {
	wantAlong(t, "200/2 x", "0050", "06/10 8/10", "125/2 75/2")
	wantAlong(t, "100 0", "100/2", "-2/2 _", "25 0")
	wantAlong(t, "100 0", "50", "1/0 -7/7", "40 -30")
	wantAlong(t, ten50+" 0", "1", "-1 0", "1/"+ten50+" 0")
	// The squares of n n - 1 and 2 n add up to that of n n + 1.
	square := "1" + noughts + noughts[1:] + "1"
	wantAlong(t, "0 0", "1", less1+less1+"/"+square+" 2"+noughts+"/"+square, "0 -1/"+ten50)
}

func TestAlongOfWrongInputs(t *testing.T) {
	for _, u := range []string{"1 1", "0 0", "2 0", "0 -2", "3/5 3/5", "1/2 1/2", "-1 1", "_ _", "x 3/5", "1/0 0", "-1/2 0", "1 1/" + ten50, less1 + "/" + ten50 + " 0"} {
		wantNoAlong(t, "100 0", "50", u, api.ErrForm)
		wantNoAlong(t, "100 0", "0", u, api.ErrForm)  // z0 is 0, too
		wantNoAlong(t, "-50 0", "50", u, api.ErrForm) // z is -z0, too
		wantNoAlong(t, "50 0", "-50", u, api.ErrForm) // both
	}
	for _, z0 := range words("0 -1 -50 -1/3 -0 5/0 _ x") {
		wantNoAlong(t, "100 0", string(z0), "3/5 4/5", api.ErrValue)
		wantNoAlong(t, "0 0", string(z0), "-1 0", api.ErrValue)
	}
	wantNoAlong(t, "50 0", "-50", "1 0", api.ErrValue)
	wantNoAlong(t, "-50 0", "50", "1 0", api.ErrZero)
	wantNoAlong(t, "-50 0", "50", "3/5 4/5", api.ErrZero)
}

// Where all comes back, turned back to 1, nothing can end the line so: Ends has no answer.
func TestAlongWhereEndsHasAnError(t *testing.T) {
	wantNoAlong(t, "0 0", "50", "-1 0", api.ErrZero)
	wantNoAlong(t, "0 2", "1", "3/5 -4/5", api.ErrZero)
	wantNoAlong(t, "0 50", "50", "0 -1", api.ErrZero)
	wantNoAlong(t, "0 1/2", "1", "-3/5 -4/5", api.ErrZero)
}

func TestBounce(t *testing.T) {
	wantBounce(t, "1 0 50 150", 6, "1 3/2 1 3/4 1 9/8 1")
	wantBounce(t, "9 2 1 2", 5, "3 4 13/3 40/9 121/27 364/81")
	wantBounce(t, "1 3 1 3", 5, "1/4 3/8 7/16 15/32 31/64 63/128")
	wantBounce(t, "7/3 1/2 2/3 5/4", 4, "4/3 40/23 116/69 880/529 2644/1587")
}

func TestBounceBelowZero(t *testing.T) {
	wantBounce(t, "-6 1 2 4", 5, "-4 -16/3 -44/9 -128/27 -388/81 -1168/243")
	wantBounce(t, "-9 2 1 2", 3, "-3 -4 -13/3 -40/9")
	wantBounce(t, "0 1 2 3", 3, "0 0 0 0")
	wantBounce(t, "0 0 2 0", 2, "0 0 0")
}

func TestBounceWhereNothingGoesBack(t *testing.T) {
	wantBounce(t, "1 50 50 150", 4, "1/2 3/4 3/4 3/4 3/4")
	wantBounce(t, "1 0 50 50", 4, "1 1 1 1 1")
	wantBounce(t, "1 150 50 50", 4, "1/4 1/4 1/4 1/4 1/4")
	wantBounce(t, "1 50 50 50", 3, "1/2 1/2 1/2 1/2")
}

func TestBounceAtNoOhms(t *testing.T) {
	wantBounce(t, "10 150 50 0", 6, "5/2 0 -5/4 0 5/8 0 -5/16") // far
	wantBounce(t, "1 0 1 1/3", 4, "1 1/2 1 3/4 1")              // near
	wantBounce(t, "12 0 1 0", 6, "12 0 12 0 12 0 12")           // both: it goes on for ever
}

func TestBounceOfFewSteps(t *testing.T) {
	wantBounce(t, "5 100 50 25", 0, "5/3")
	wantBounce(t, "5 100 50 25", 1, "5/3 10/9")
}

func TestBounceOfAsManyStepsAsMayBe(t *testing.T) {
	wantBounce(t, "12 0 1 0", api.MaxSteps, strings.Repeat("12 0 ", api.MaxSteps/2)+"12")
	got, e := bounce("1 3 1 3", api.MaxSteps) // 1/2 - 1/4, 1/2 - 1/8, ..
	if e != api.OK || len(got) != api.MaxSteps+1 || got[50] != "2251799813685247/4503599627370496" {
		t.Errorf("%v, %d", got, e)
	}
}

func TestBounceOfTextsInOtherForms(t *testing.T) {
	wantBounce(t, "18/2 004/2 3/3 -0", 2, "3 0 -1")
	wantBounce(t, "9 2 1 0", 2, "3 0 -1")
	wantBounce(t, "x 2 1 2", 2, "0 0 0")
	wantBounce(t, "1/0 2 1 2", 2, "0 0 0")
	wantBounce(t, "12 x 1 _", 2, "12 0 12")
	wantBounce(t, "12 -1/0 1 1.5", 2, "12 0 12")
}

func TestBounceOfLongOnes(t *testing.T) {
	wantBounce(t, "1 1 1 "+less1, 3, "1/2 "+strings.Repeat(less1+"/"+ten50+" ", 3))
	wantBounce(t, ten50+" 0 "+ten50+" 0", 2, ten50+" 0 "+ten50)
	wantBounce(t, "9/"+ten50+" 2/"+ten50+" 1/"+ten50+" 2/"+ten50, 2, "3/"+ten50+" 1/25"+noughts[2:]+" 13/3"+noughts)
}

func TestBounceOfWrongInputs(t *testing.T) {
	for _, steps := range []int{-1, -2, api.MaxSteps + 1, 1000, math.MaxInt, math.MinInt} {
		wantNoBounce(t, "1 1 1 1", steps, api.ErrMany)
		wantNoBounce(t, "1 -1 0 -1", steps, api.ErrMany) // others are wrong, too
	}
	for _, steps := range []int{0, 1, 7, api.MaxSteps} {
		for _, given := range []string{
			"1 -1 1 1", "1 1 1 -1", "1 -1 1 -1", "1 -1/3 1 0", "1 0 1 -1/3", "1 -1/" + ten50 + " 1 1",
			"1 1 0 1", "1 1 -1 1", "1 1 -1/2 1", "1 1 x 1", "1 1 _ 1", "1 1 3/0 1", "1 0 0 0", "0 -1 1 1", "0 1 0 1", "1 1 -0 1",
			"1 -1 1 x", "x 1 1 -1", "1 -50 50 1", "1 1 50 -50", // nothing could be divided by there
		} {
			wantNoBounce(t, given, steps, api.ErrValue)
		}
	}
}

func TestNothingIsKept(t *testing.T) {
	first, _ := bounce("9 2 1 2", 3)
	for i := range first {
		first[i] = "7"
	}
	_ = append(first, "8")
	wantBounce(t, "9 2 1 2", 3, "3 4 13/3 40/9")
}
