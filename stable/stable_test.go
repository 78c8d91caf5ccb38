package stable

import (
	"slices"
	"strings"
	"testing"

	"voltaic/api"
)

// words are the numbers of a text, from the constant one on.
func words(text string) []api.Q {
	var out []api.Q
	for _, w := range strings.Fields(text) {
		out = append(out, api.Q(w))
	}
	return out
}

// sides are how many roots lie left, in the middle and right.
type sides [3]int

func wantCount(t *testing.T, l []api.Q, want sides) {
	t.Helper()
	left, middle, right, e := Count(l)
	if got := (sides{left, middle, right}); got != want || e != api.OK {
		t.Errorf("Count(%v): %v, %d, want %v", l, got, e, want)
	}
}

func wantRouth(t *testing.T, l []api.Q, want string) {
	t.Helper()
	if got, e := Routh(l); !slices.Equal(got, words(want)) || e != api.OK {
		t.Errorf("Routh(%v): %v, %d, want %s", l, got, e, want)
	}
}

// wantNoCount and wantNoRouth ask that nothing else is told.
func wantNoCount(t *testing.T, l []api.Q, want api.Errno) {
	t.Helper()
	if left, middle, right, e := Count(l); left != 0 || middle != 0 || right != 0 || e != want {
		t.Errorf("Count(%q): %d, %d, %d, %d, want %d and nothing else", l, left, middle, right, e, want)
	}
}

func wantNoRouth(t *testing.T, l []api.Q, want api.Errno) {
	t.Helper()
	if got, e := Routh(l); got != nil || e != want {
		t.Errorf("Routh(%q): %v, %d, want %d and nothing else", l, got, e, want)
	}
}

func TestCountOfOneRootOrTwo(t *testing.T) {
	for text, want := range map[string]sides{
		"1 1": {1, 0, 0}, "-1 1": {0, 0, 1}, "0 1": {0, 1, 0}, "1 -1": {0, 0, 1}, "-1 -1": {1, 0, 0}, "0 -2/3": {0, 1, 0}, "2/3 5/7": {1, 0, 0},
		// Real ones: -1 and -2, 1 and 2, -1 and 2, 0 and -3, 0 and 3.
		"2 3 1": {2, 0, 0}, "2 -3 1": {0, 0, 2}, "-2 -1 1": {1, 0, 1}, "0 3 1": {1, 1, 0}, "0 -3 1": {0, 1, 1},
		// No fractions: -1 and 1, by the root of 2 to either side.
		"-1 2 1": {1, 0, 1}, "-1 -2 1": {1, 0, 1}, "1 4 2": {2, 0, 0},
		// Complex ones: to both sides of -1, of 1, and in the middle.
		"2 2 1": {2, 0, 0}, "2 -2 1": {0, 0, 2}, "1 0 1": {0, 2, 0}, "3 0 7": {0, 2, 0}, "-1/2 1/3 -1/4": {0, 0, 2},
		// A little to either side of the middle.
		"1 1/1000000000000 1": {2, 0, 0}, "1 -1/1000000000000 1": {0, 0, 2},
	} {
		wantCount(t, words(text), want)
	}
}

func TestCountOfMoreRoots(t *testing.T) {
	for text, want := range map[string]sides{
		"8 2 1 1": {1, 0, 2},
		// -1, -2, -3, and the same on the right.
		"6 11 6 1": {3, 0, 0}, "-6 11 -6 1": {0, 0, 3},
		// -1 with i and -i; 1 with them; 0 with them.
		"1 1 1 1": {1, 2, 0}, "-1 1 -1 1": {0, 2, 1}, "0 1 0 1": {0, 3, 0},
		// A root of each kind: -1, 0, 1, i, -i.
		"0 -1 0 0 0 1": {1, 3, 1},
		// The fifth roots of 1, of -1, of 2 and of -2.
		"-1 0 0 0 0 1": {2, 0, 3}, "1 0 0 0 0 1": {3, 0, 2}, "-2 0 0 0 0 1": {2, 0, 3}, "2 0 0 0 0 1": {3, 0, 2},
		// The third, sixth, eighth and twelfth roots of 1.
		"-1 0 0 1": {2, 0, 1}, "-1 0 0 0 0 0 1": {3, 0, 3}, "-1 0 0 0 0 0 0 0 1": {3, 2, 3}, "-1 0 0 0 0 0 0 0 0 0 0 0 1": {5, 2, 5}, "1 0 0 0 0 0 0 0 0 0 0 0 1": {6, 0, 6},
		// All roots of s to the tenth + .. + 1: the eleventh roots of 1 but 1.
		"1 1 1 1 1 1 1 1 1 1 1": {6, 0, 4},
		// Two pairs in the middle, at 1 and at the root of 2; one, and a real pair.
		"2 0 3 0 1": {0, 4, 0}, "-2 0 1 0 1": {1, 2, 1},
	} {
		wantCount(t, words(text), want)
	}
}

func TestCountOfRootsThatComeOften(t *testing.T) {
	for text, want := range map[string]sides{
		// -1 and 1, twice to four times.
		"1 2 1": {2, 0, 0}, "1 -2 1": {0, 0, 2}, "1 3 3 1": {3, 0, 0}, "-1 3 -3 1": {0, 0, 3}, "1 4 6 4 1": {4, 0, 0}, "1 -4 6 -4 1": {0, 0, 4},
		// -1 + i and -1 - i, twice, and on the right.
		"4 8 8 4 1": {4, 0, 0}, "4 -8 8 -4 1": {0, 0, 4},
		// i and -i, twice, three times, six times.
		"1 0 2 0 1": {0, 4, 0}, "1 0 3 0 3 0 1": {0, 6, 0}, "1 0 6 0 15 0 20 0 15 0 6 0 1": {0, 12, 0},
		// Once, and at 2 twice.
		"16 0 24 0 9 0 1": {0, 6, 0},
		// -1 twice, with i and -i twice.
		"1 2 3 4 3 2 1": {2, 4, 0},
		// 1 three times, with i and -i twice.
		"-1 3 -5 7 -7 5 -3 1": {0, 4, 3},
	} {
		wantCount(t, words(text), want)
	}
}

// Roots opposite each other about the middle are as many left as right: Routh tells no column of them.
func TestCountOfRootsThatLieOpposite(t *testing.T) {
	for text, want := range map[string]sides{
		// Real ones: 1 and -1, once, twice, three times; by the root of 2.
		"-1 0 1": {1, 0, 1}, "1 0 -2 0 1": {2, 0, 2}, "-1 0 3 0 -3 0 1": {3, 0, 3}, "-2 0 1": {1, 0, 1},
		// Complex ones: 1 and -1, with i and -i each, once and twice.
		"4 0 0 0 1": {2, 0, 2}, "1 0 0 0 1": {2, 0, 2}, "16 0 0 0 8 0 0 0 1": {4, 0, 4},
		// With -1 besides: 1 and -1 twice; with -3 besides, of 1 and -1; with 3.
		"-1 -1 1 1": {2, 0, 1}, "-3 -1 3 1": {2, 0, 1}, "3 -1 -3 1": {1, 0, 2},
		// -1 three times, 1 once.
		"-1 -2 0 2 1": {3, 0, 1},
		// Complex ones, with -1, and with 1.
		"4 4 0 0 1 1": {3, 0, 2}, "-4 4 0 0 -1 1": {2, 0, 3},
		// Real and complex ones and those in the middle, all at once, with 0 and -2.
		"0 8 4 0 0 -6 -3 0 0 -2 -1": {4, 3, 3},
	} {
		wantCount(t, words(text), want)
		wantNoRouth(t, words(text), api.ErrNone)
	}
}

func TestCountOfZeroAsARoot(t *testing.T) {
	for text, want := range map[string]sides{
		"0 0 1": {0, 2, 0}, "0 0 0 -5": {0, 3, 0}, "0 1 1": {1, 1, 0}, "0 0 1 1": {1, 2, 0}, "0 0 -1 1": {0, 2, 1}, "0 0 0 1 0 1": {0, 5, 0}, "0 0 -1 0 1": {1, 2, 1},
	} {
		wantCount(t, words(text), want)
	}
	for degree := range api.MaxDegree + 1 {
		l := append(slices.Repeat([]api.Q{"0"}, degree), "7/3")
		wantCount(t, l, sides{1: degree})
	}
}

func TestOneNumber(t *testing.T) {
	for text, want := range map[string]string{"5": "5", "-2/6": "-1/3", "7/1": "7", "1 0": "1", "-4 0/3 x": "-4"} {
		wantCount(t, words(text), sides{})
		wantRouth(t, words(text), want)
	}
}

func TestNoughtsAtTheEnd(t *testing.T) {
	for _, noughts := range []string{" 0", " 0 0 0", " -0 0/7 000 1/0", " x 1.5 + 1/2/3"} {
		wantCount(t, words("8 2 1 1"+noughts), sides{1, 0, 2})
		wantCount(t, words("1 0 1"+noughts), sides{0, 2, 0})
		wantRouth(t, words("8 2 1 1"+noughts), "1 1 -6 8")
		wantRouth(t, words("1 2"+noughts), "2 1")
		wantNoRouth(t, words("1 0 1"+noughts), api.ErrNone)
	}
	full := append(words("-1 1"), slices.Repeat([]api.Q{"0"}, api.MaxDegree-1)...)
	wantCount(t, full, sides{0, 0, 1})
	wantRouth(t, full, "1 -1")
}

// Long numbers whose last digits tell the side.
func TestLongNumbers(t *testing.T) {
	great := api.Q("1" + strings.Repeat("0", 300))
	more := great[:300] + "1"
	// (s + 1)(s s + great) is in the middle but for -1; a little more, or less, of its constant, and it isn't.
	wantCount(t, []api.Q{great, great, "1", "1"}, sides{1, 2, 0})
	wantCount(t, []api.Q{more, great, "1", "1"}, sides{1, 0, 2})
	wantCount(t, []api.Q{great, more, "1", "1"}, sides{3, 0, 0})
	wantRouth(t, []api.Q{more, great, "1", "1"}, "1 1 -1 "+string(more))
	wantRouth(t, []api.Q{great, more, "1", "1"}, "1 1 1 "+string(great))
	wantNoRouth(t, []api.Q{great, great, "1", "1"}, api.ErrNone)
	wantRouth(t, []api.Q{"1", "1/" + great, "3/" + more}, "3/"+string(more)+" 1/"+string(great)+" 1")
	// -1 and 1, and what lies a little beside 1.
	wantCount(t, []api.Q{"-" + great, "0", great}, sides{1, 0, 1})
	wantCount(t, []api.Q{more, "-" + great + "/1", "-" + more, great}, sides{1, 0, 2})
}

func TestRouthOfOrdinaryPolynomials(t *testing.T) {
	for text, want := range map[string]string{
		"3 2": "2 3", "-3 2": "2 -3", "2/6 -4/2": "-2 1/3",
		"1 1 1": "1 1 1", "3 2 1": "1 2 3", "5 -1/2 3": "3 -1/2 5",
		"6 11 6 1": "1 6 10 6",
		"8 2 1 1":  "1 1 -6 8",
		// Textbooks' ones.
		"5 4 3 2 1":    "1 2 1 -6 5",
		"10 8 9 4 2 1": "1 2 -1/2 21 68/21 10",
		"1 1 1 1 1/2":  "1/2 1 1/2 -1 1",
		// (s + 1) to the sixth, and (s - 1).
		"1 6 15 20 15 6 1":    "1 6 35/3 64/5 9 256/63 1",
		"1 -6 15 -20 15 -6 1": "1 -6 35/3 -64/5 9 -256/63 1",
	} {
		wantRouth(t, words(text), want)
	}
}

// Only the first row may begin with 0, and it never does.
func TestRouthOfRowsThatBeginWithZero(t *testing.T) {
	for _, text := range []string{
		"0 1", "0 -3/2", // the second of two rows
		"1 0 1", "0 0 1", // the second row, of noughts alone
		"0 1 1",               // the last row
		"1 1 0 1", "-1 1 0 1", // the second row, but there is more in it
		"1 1 1 1", "-1 -1 1 1", // the third row, of noughts alone
		"3 2 2 1 1",                // the third row, but there is more in it
		"10 11 4 2 2 1 0",          // noughts at the end
		"0 2 3 1", "0 0 0 0 1 2 1", // 0 is a root
		"2 4 3 6 1 2", "1 0 2 0 1", // rows of noughts alone
		"4 8 0 0 1 2", "4 0 0 0 1", // complex roots that lie opposite each other
		"1 0 0 0 0 0 0 0 0 0 0 0 1", // as long as may be
	} {
		wantNoRouth(t, words(text), api.ErrNone)
	}
}

func TestTooManyNumbers(t *testing.T) {
	for _, l := range [][]api.Q{
		make([]api.Q, api.MaxDegree+2),
		slices.Repeat([]api.Q{"0"}, api.MaxDegree+2),
		slices.Repeat([]api.Q{"1"}, api.MaxDegree+2),
		append(words("1 1"), slices.Repeat([]api.Q{"0"}, api.MaxDegree)...),
		slices.Repeat([]api.Q{"x"}, 1000),
	} {
		wantNoCount(t, l, api.ErrMany)
		wantNoRouth(t, l, api.ErrMany)
	}
	most := slices.Repeat([]api.Q{"1"}, api.MaxDegree+1)
	wantCount(t, most, sides{6, 0, 6})
	wantNoRouth(t, most, api.ErrNone)
}

func TestAllZero(t *testing.T) {
	for _, l := range [][]api.Q{
		nil, {}, {"0"}, {""}, {"-0", "0/5", "00"}, make([]api.Q, api.MaxDegree+1), slices.Repeat([]api.Q{"0"}, api.MaxDegree+1),
		{"x", "1/0", "+1", " 1", "1.5", "--1", "1/-2", "1e3", "-", "/", "1/"}, {"\xff", "١"},
	} {
		wantNoCount(t, l, api.ErrZero)
		wantNoRouth(t, l, api.ErrZero)
	}
}

// What is no fraction is 0 wherever it stands.
func TestNumbersThatAreNoFractions(t *testing.T) {
	for _, nought := range []api.Q{"", "x", "1/0", "+1", "1.5", " 1", "1/2/3", "--1", "1/-1", "0x1"} {
		wantCount(t, []api.Q{nought, "1", "1"}, sides{1, 1, 0})
		wantCount(t, []api.Q{"4", nought, "1"}, sides{0, 2, 0})
		wantCount(t, []api.Q{"4", "2", nought}, sides{1, 0, 0})
		wantNoRouth(t, []api.Q{nought, "1", "1"}, api.ErrNone)
		wantRouth(t, []api.Q{"3", "1", "1", nought}, "1 1 3")
		wantRouth(t, []api.Q{"1", "6", nought, "1", "1"}, "1 1 -6 37/6 1")
	}
}

// What is told is in lowest terms, however it was written.
func TestRouthTellsLowestTerms(t *testing.T) {
	wantRouth(t, words("06/4 4/2 010/5 -0/3"), "2 2 3/2")
	wantRouth(t, words("2/4 -6/4 3/9"), "1/3 -3/2 1/2")
}

// What is handed in is only read, the spare room behind it, too; what is told is new.
func TestNothingIsChangedOrKept(t *testing.T) {
	room := words("8 2 2/2 1 0 7 9")
	l := room[:5]
	for range 2 {
		wantCount(t, l, sides{1, 0, 2})
		wantRouth(t, l, "1 1 -6 8")
		if !slices.Equal(room, words("8 2 2/2 1 0 7 9")) {
			t.Errorf("changed to %v", room)
		}
		column, _ := Routh(l)
		for i := range column {
			column[i] = "x"
		}
	}
	one := words("3")
	column, _ := Routh(one)
	column[0] = "4"
	if one[0] != "3" {
		t.Error("what is told shares memory with what was handed in")
	}
}
