package stable

import (
	"math/big"
	"math/cmplx"
	"math/rand"
	"slices"
	"strconv"
	"strings"
	"testing"

	"voltaic/api"
)

// ratOf reads a fraction by another reckoner.
func ratOf(q api.Q) *big.Rat {
	x, ok := new(big.Rat).SetString(string(q))
	if !ok {
		panic("no fraction: " + string(q))
	}
	return x
}

// times is the product of polynomials, by another reckoner.
func times(a, b []api.Q) []api.Q {
	sums := make([]*big.Rat, len(a)+len(b)-1)
	for i := range sums {
		sums[i] = new(big.Rat)
	}
	for i, x := range a {
		for k, y := range b {
			sums[i+k].Add(sums[i+k], new(big.Rat).Mul(ratOf(x), ratOf(y)))
		}
	}
	var out []api.Q
	for _, sum := range sums {
		out = append(out, api.Q(sum.RatString()))
	}
	return out
}

func (x sides) plus(y sides) sides { return sides{x[0] + y[0], x[1] + y[1], x[2] + y[2]} }

// factor is a polynomial of which it is known where its roots lie.
type factor struct {
	numbers []api.Q
	where   sides
}

func someWhole(r *rand.Rand, most int) string { return strconv.Itoa(1 + r.Intn(most)) }

func someAbove(r *rand.Rand) string { return someWhole(r, 9) + "/" + someWhole(r, 4) }

// someFactor has one root, two that are complex, or two or four that lie opposite each other.
func someFactor(r *rand.Rand) factor {
	x := someAbove(r)
	switch r.Intn(9) {
	case 0:
		return factor{words(x + " 1"), sides{1, 0, 0}}
	case 1:
		return factor{words("-" + x + " 1"), sides{0, 0, 1}}
	case 2:
		return factor{words("0 1"), sides{0, 1, 0}}
	case 3:
		return factor{words(x + " 0 1"), sides{0, 2, 0}}
	case 4:
		return factor{words("-" + x + " 0 1"), sides{1, 0, 1}}
	case 5: // two roots add up to less than 0, and their product is above it: real or complex, they lie left
		return factor{words(x + " " + someAbove(r) + " 1"), sides{2, 0, 0}}
	case 6:
		return factor{words(x + " -" + someAbove(r) + " 1"), sides{0, 0, 2}}
	case 7: // s to the fourth is below 0: two roots on each side, none in the middle
		return factor{words(x + " 0 0 0 1"), sides{2, 0, 2}}
	}
	// Complex roots around -1/2 and around 1/2, just as far from the middle.
	return factor{times(words("3 1 1"), words("3 -1 1")), sides{2, 0, 2}}
}

// someProduct is of factors that may come more than once, with a number ahead, all its roots known.
func someProduct(r *rand.Rand, degree int) factor {
	out := factor{numbers: []api.Q{api.Q(someAbove(r))}}
	if r.Intn(2) == 0 {
		out.numbers[0] = "-" + out.numbers[0]
	}
	for {
		f := someFactor(r)
		for range 1 + r.Intn(3) {
			if len(out.numbers)+len(f.numbers)-2 > degree {
				return out
			}
			out = factor{times(out.numbers, f.numbers), out.where.plus(f.where)}
		}
	}
}

func TestCountOfKnownRoots(t *testing.T) {
	r := rand.New(rand.NewSource(1))
	for range 2000 {
		f := someProduct(r, r.Intn(api.MaxDegree+1))
		wantCount(t, f.numbers, f.where)
	}
}

// The same in long numbers: s is made shorter, which leaves all roots on their sides.
func TestCountOfKnownRootsInLongNumbers(t *testing.T) {
	r := rand.New(rand.NewSource(2))
	for range 20 {
		f := someProduct(r, api.MaxDegree)
		by := ratOf(api.Q("9" + strings.Repeat(someWhole(r, 9), 40) + "/7" + strings.Repeat(someWhole(r, 9), 30)))
		power := big.NewRat(1, 1)
		var l []api.Q
		for _, q := range f.numbers {
			l = append(l, api.Q(new(big.Rat).Mul(ratOf(q), power).RatString()))
			power = new(big.Rat).Mul(power, by)
		}
		wantCount(t, l, f.where)
	}
}

// somePolynomial has numbers of which many are 0, but not the last one.
func somePolynomial(r *rand.Rand, degree int) []api.Q {
	var l []api.Q
	for range degree + 1 {
		l = append(l, api.Q(strconv.Itoa(r.Intn(7)-3)+"/"+someWhole(r, 3)))
	}
	for strings.HasPrefix(string(l[degree]), "0") {
		l[degree] = api.Q(strconv.Itoa(r.Intn(7) - 3))
	}
	return l
}

// determinant is what a square of fractions makes, by Gauss's way.
func determinant(rows [][]*big.Rat) *big.Rat {
	out := big.NewRat(1, 1)
	for done := range rows {
		pivot := slices.IndexFunc(rows[done:], func(row []*big.Rat) bool { return row[done].Sign() != 0 })
		if pivot < 0 {
			return new(big.Rat)
		}
		if pivot > 0 {
			rows[done], rows[done+pivot] = rows[done+pivot], rows[done]
			out.Neg(out)
		}
		out.Mul(out, rows[done][done])
		for _, row := range rows[done+1:] {
			by := new(big.Rat).Quo(row[done], rows[done][done])
			for i := range row {
				row[i] = new(big.Rat).Sub(row[i], new(big.Rat).Mul(by, rows[done][i]))
			}
		}
	}
	return out
}

// hurwitz is Hurwitz's determinant of so many rows.
func hurwitz(l []api.Q, size int) *big.Rat {
	rows := make([][]*big.Rat, size)
	for i := range rows {
		for k := range size {
			entry := new(big.Rat)
			if power := len(l) - 1 - (2*k + 1 - i); power >= 0 && power < len(l) {
				entry = ratOf(l[power])
			}
			rows[i] = append(rows[i], entry)
		}
	}
	return determinant(rows)
}

// The entries of the column are quotients of Hurwitz's determinants: there is none where one of these is 0.
func TestRouthAgainstDeterminants(t *testing.T) {
	r := rand.New(rand.NewSource(3))
	told, none := 0, 0
	for range 1500 {
		l := somePolynomial(r, r.Intn(api.MaxDegree+1))
		column := []api.Q{api.Q(ratOf(l[len(l)-1]).RatString())}
		ahead := big.NewRat(1, 1)
		for size := 1; size < len(l) && ahead.Sign() != 0; size++ {
			next := hurwitz(l, size)
			column = append(column, api.Q(new(big.Rat).Quo(next, ahead).RatString()))
			ahead = next
		}
		if ahead.Sign() == 0 {
			wantNoRouth(t, l, api.ErrNone)
			none++
			continue
		}
		if got, e := Routh(l); e != api.OK || !slices.Equal(got, column) {
			t.Fatalf("Routh(%v): %v, %d, want %v", l, got, e, column)
		}
		told++
	}
	if told < 500 || none < 100 {
		t.Errorf("only %d columns, and %d none", told, none)
	}
}

func changesOfSign(column []api.Q) int {
	changes := 0
	for i := 1; i < len(column); i++ {
		if ratOf(column[i]).Sign() != ratOf(column[i-1]).Sign() {
			changes++
		}
	}
	return changes
}

// Where Routh tells a column, its changes of sign are the roots on the right, and none is in the middle.
func TestRouthAndCountAgree(t *testing.T) {
	r := rand.New(rand.NewSource(4))
	told := 0
	check := func(l []api.Q) {
		t.Helper()
		column, e := Routh(l)
		left, middle, right, code := Count(l)
		if code != api.OK || e != api.OK && e != api.ErrNone {
			t.Fatalf("%v: %d, %d", l, code, e)
		}
		if e != api.OK {
			return
		}
		told++
		if middle != 0 || right != changesOfSign(column) || left+right != len(column)-1 {
			t.Errorf("%v: %d, %d, %d roots, but the column is %v", l, left, middle, right, column)
		}
	}
	for range 1500 {
		check(somePolynomial(r, r.Intn(api.MaxDegree+1)))
		check(someProduct(r, r.Intn(api.MaxDegree+1)).numbers)
	}
	if told < 1000 {
		t.Errorf("only %d columns", told)
	}
}

func countOf(t *testing.T, l []api.Q) sides {
	t.Helper()
	left, middle, right, e := Count(l)
	if e != api.OK {
		t.Fatalf("Count(%v): %d", l, e)
	}
	return sides{left, middle, right}
}

func TestCountOfAProductIsTheSumOfCounts(t *testing.T) {
	r := rand.New(rand.NewSource(5))
	for range 1500 {
		degree := r.Intn(api.MaxDegree + 1)
		x, y := somePolynomial(r, degree), somePolynomial(r, r.Intn(api.MaxDegree+1-degree))
		wantCount(t, times(x, y), countOf(t, x).plus(countOf(t, y)))
	}
	for range 500 {
		x := somePolynomial(r, r.Intn(api.MaxDegree/2+1))
		wantCount(t, times(x, x), countOf(t, x).plus(countOf(t, x)))
		x = x[:min(len(x), api.MaxDegree/3+1)]
		if !slices.ContainsFunc(x, func(q api.Q) bool { return ratOf(q).Sign() != 0 }) {
			continue
		}
		once := countOf(t, x)
		wantCount(t, times(x, times(x, x)), once.plus(once).plus(once))
	}
}

// mirrored is the polynomial of -s.
func mirrored(l []api.Q) []api.Q {
	var out []api.Q
	for power, q := range l {
		x := ratOf(q)
		if power%2 == 1 {
			x.Neg(x)
		}
		out = append(out, api.Q(x.RatString()))
	}
	return out
}

// What is mirrored has its sides changed; 1 over a root lies on the same side as it.
func TestCountOfMirroredAndTurnedOnes(t *testing.T) {
	r := rand.New(rand.NewSource(6))
	for range 1000 {
		l := somePolynomial(r, r.Intn(api.MaxDegree+1))
		where := countOf(t, l)
		if where[0]+where[1]+where[2] != len(l)-1 {
			t.Errorf("Count(%v): %v", l, where)
		}
		wantCount(t, mirrored(l), sides{where[2], where[1], where[0]})
		turned := slices.Clone(l)
		slices.Reverse(turned)
		if ratOf(l[0]).Sign() != 0 {
			wantCount(t, turned, where)
		}
	}
	for range 500 {
		l := somePolynomial(r, r.Intn(api.MaxDegree/2+1))
		where := countOf(t, l)
		wantCount(t, times(l, mirrored(l)), sides{where[0] + where[2], 2 * where[1], where[0] + where[2]})
	}
}

// rootsOf finds all roots at once, as floats: Weierstrass's way.
func rootsOf(l []api.Q) []complex128 {
	var numbers []complex128
	for _, q := range l {
		x, _ := new(big.Rat).Quo(ratOf(q), ratOf(l[len(l)-1])).Float64()
		numbers = append(numbers, complex(x, 0))
	}
	roots := make([]complex128, len(l)-1)
	for i := range roots {
		roots[i] = cmplx.Pow(0.4+0.9i, complex(float64(i), 0))
	}
	for range 500 {
		for i, root := range roots {
			value, others := complex128(0), complex128(1)
			for _, number := range slices.Backward(numbers) {
				value = value*root + number
			}
			for k, other := range roots {
				if k != i {
					others *= root - other
				}
			}
			roots[i] -= value / others
		}
	}
	return roots
}

// Where all roots are found well aside of the middle, as many are counted there.
func TestCountAgainstFloats(t *testing.T) {
	r := rand.New(rand.NewSource(7))
	sure := 0
	for range 1000 {
		l := somePolynomial(r, r.Intn(api.MaxDegree+1))
		var where sides
		for _, root := range rootsOf(l) {
			switch {
			case real(root) < -0.01:
				where[0]++
			case real(root) > 0.01:
				where[2]++
			}
		}
		if where[0]+where[2] == len(l)-1 {
			wantCount(t, l, where)
			sure++
		}
	}
	if sure < 400 {
		t.Errorf("only %d are sure", sure)
	}
}

// Texts of all kinds: each call ends, and counts all roots or tells an error.
func TestAnyTexts(t *testing.T) {
	r := rand.New(rand.NewSource(8))
	pieces := []string{"0", "1", "-", "/", "7", "00", "x", "", "99999999999999999999", ".", "-3/4", "5/6"}
	for range 5000 {
		var l []api.Q
		for range r.Intn(api.MaxDegree + 3) {
			var text string
			for range r.Intn(4) {
				text += pieces[r.Intn(len(pieces))]
			}
			l = append(l, api.Q(text))
		}
		left, middle, right, e := Count(l)
		column, code := Routh(l)
		switch {
		case len(l) > api.MaxDegree+1 && (e != api.ErrMany || code != api.ErrMany):
			t.Errorf("%q: %d, %d", l, e, code)
		case e != api.OK && (code != e || left+middle+right != 0 || column != nil):
			t.Errorf("%q: %d, %d, %d, %d, %v, %d", l, left, middle, right, e, column, code)
		case e == api.OK && code == api.OK && len(column) != left+middle+right+1:
			t.Errorf("%q: %d, %d, %d, %v", l, left, middle, right, column)
		}
	}
}
