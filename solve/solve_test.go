package solve

import (
	"math/rand"
	"reflect"
	"slices"
	"testing"

	"voltaic/api"
	"voltaic/frac"
)

const small = 5 // a prime

// leftOver is what is left of whole numbers when they are divided by small: numbers of another kind, so few that all of them can be tried.
func leftOver() Field[int] {
	over := func(x, y int) int {
		for out := range small {
			if out*y%small == x {
				return out
			}
		}
		panic("divided by 0")
	}
	return Field[int]{
		One:    1,
		Plus:   func(x, y int) int { return (x + y) % small },
		Minus:  func(x, y int) int { return (x - y + small) % small },
		Times:  func(x, y int) int { return x * y % small },
		Over:   over,
		IsZero: func(x int) bool { return x == 0 },
		Bar:    func(int) int { return 1 },
		Size:   func(x int) int { return min(x, small-x) },
	}
}

// tried has all answers.
func tried(rows [][]int) [][]int {
	answers := [][]int{nil}
	for range rows {
		var longer [][]int
		for _, a := range answers {
			for x := range small {
				longer = append(longer, append(slices.Clone(a), x))
			}
		}
		answers = longer
	}
	return slices.DeleteFunc(answers, func(a []int) bool {
		return slices.ContainsFunc(rows, func(row []int) bool {
			sum := small - row[len(a)]
			for i, x := range a {
				sum += row[i] * x
			}
			return sum%small != 0
		})
	})
}

func TestRowsOfAnotherKindOfNumbers(t *testing.T) {
	r := rand.New(rand.NewSource(1))
	told := map[api.Errno]int{}
	for range 5000 {
		rows := make([][]int, r.Intn(5))
		for i := range rows {
			rows[i] = make([]int, len(rows)+1)
			for k := range rows[i] {
				rows[i][k] = max(0, r.Intn(small*3/2)-small/2)
			}
			if i > 0 && r.Intn(4) == 0 {
				copy(rows[i][r.Intn(2):], rows[i-1][1:])
			}
		}
		before := make([][]int, len(rows))
		for i, row := range rows {
			before[i] = slices.Clone(row)
		}
		answers := tried(rows)
		want := []api.Errno{api.ErrNone, api.OK, api.ErrFree}[min(len(answers), 2)]
		got, code := Rows(leftOver(), rows)
		if code != want || code != api.OK && got != nil || code == api.OK && !slices.Equal(got, answers[0]) {
			t.Fatalf("%v: %v, %d, want %d of %v", before, got, code, want, answers)
		}
		if !reflect.DeepEqual(rows, before) {
			t.Fatalf("%v was changed to %v", before, rows)
		}
		told[code]++
	}
	for _, code := range []api.Errno{api.OK, api.ErrNone, api.ErrFree} {
		if told[code] < 200 {
			t.Errorf("%d is told %d times only", code, told[code])
		}
	}
}

func fractions(l ...api.Q) []frac.F {
	var out []frac.F
	for _, q := range l {
		out = append(out, frac.Of(q))
	}
	return out
}

func wantAnswer(t *testing.T, rows [][]frac.F, want ...api.Q) {
	t.Helper()
	got, code := Rows(Fractions(), rows)
	var told []api.Q
	for _, x := range got {
		told = append(told, x.Q())
	}
	if code != api.OK || !slices.Equal(told, want) {
		t.Errorf("%v, %d, want %v", told, code, want)
	}
}

func TestRowsOfFractions(t *testing.T) {
	wantAnswer(t, nil)
	wantAnswer(t, [][]frac.F{fractions("-2/3", "5/7")}, "-15/14")
	wantAnswer(t, [][]frac.F{fractions("0", "3", "6"), fractions("1/2", "0", "-1")}, "-2", "2")
	wantAnswer(t, [][]frac.F{fractions("2", "3", "1/6"), fractions("4", "-5", "7/2")}, "17/33", "-19/66")
	wantAnswer(t, [][]frac.F{fractions("1/2", "1/3", "1/4", "1"), fractions("1/3", "1/4", "1/5", "0"), fractions("1/4", "1/5", "1/6", "0")}, "72", "-240", "180")
	for code, rows := range map[api.Errno][][]frac.F{
		api.ErrNone: {fractions("1/2", "1/3", "1"), fractions("3", "2", "5")},
		api.ErrFree: {fractions("1/2", "1/3", "1"), fractions("3", "2", "6")},
	} {
		if got, told := Rows(Fractions(), rows); told != code || got != nil {
			t.Errorf("%v, %d, want %d", got, told, code)
		}
	}
}

// A resistor of 2 Ω and an inductor of 3 H, or a capacitor of 5 F, at the fraction 1/3 for s.
func TestLawsOfWhatChanges(t *testing.T) {
	f := Fractions()
	n := api.Net{Nodes: 3, Parts: []api.Part{
		{Kind: api.V, A: 1, Value: "1"}, {Kind: api.R, A: 1, B: 2, Value: "2"}, {Kind: api.L, A: 2, Value: "3"},
	}}
	volts, amps, code := Net(f, n, Laws(f, frac.Of("1/3")))
	if code != api.OK || volts[2].Q() != "1/3" || amps[2].Q() != "1/3" {
		t.Errorf("%v, %v, %d", volts, amps, code)
	}
	n.Parts[2] = api.Part{Kind: api.C, A: 2, Value: "5"}
	volts, amps, code = Net(f, n, Laws(f, frac.Of("1/3")))
	if code != api.OK || volts[2].Q() != "3/13" || amps[2].Q() != "5/13" {
		t.Errorf("%v, %v, %d", volts, amps, code)
	}
}

// (1 + i) x + 2 y = 1, x - i y = 1/2 i.
func TestRowsOfComplexFractions(t *testing.T) {
	z := func(re, im api.Q) frac.Z { return frac.Z{Re: frac.Of(re), Im: frac.Of(im)} }
	rows := [][]frac.Z{{z("1", "1"), z("2", "0"), z("1", "0")}, {z("1", "0"), z("0", "-1"), z("0", "1/2")}}
	got, code := Rows(Complexes(), rows)
	if code != api.OK || len(got) != 2 || got[0].Z() != (api.Z{Re: "1", Im: "1"}) || got[1].Z() != (api.Z{Re: "1/2", Im: "-1"}) {
		t.Errorf("%v, %d", got, code)
	}
	// i times one row is the other.
	rows[1] = []frac.Z{z("-1", "1"), z("0", "2"), z("0", "1")}
	if _, code = Rows(Complexes(), rows); code != api.ErrFree {
		t.Errorf("%d, want %d", code, api.ErrFree)
	}
	rows[1][2] = z("1", "0")
	if _, code = Rows(Complexes(), rows); code != api.ErrNone {
		t.Errorf("%d, want %d", code, api.ErrNone)
	}
}
