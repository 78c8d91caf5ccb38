package frac

import (
	"math/big"
	"math/rand"
	"strings"
	"testing"

	"voltaic/api"
)

func TestOfTellsLowestTerms(t *testing.T) {
	for q, want := range map[api.Q]api.Q{
		"0": "0", "-0": "0", "0/5": "0", "-0/3": "0", "000": "0",
		"7": "7", "-007": "-7", "6/4": "3/2", "-6/4": "-3/2", "8/4": "2", "1/010": "1/10", "08/5": "8/5",
		"4294967296/8589934592": "1/2",
		"123456789012345678901234567890/1000000000000000000000000000000000000": "12345678901234567890123456789/100000000000000000000000000000000000",
	} {
		if got := Of(q).Q(); got != want {
			t.Errorf("Of(%q): %q, want %q", q, got, want)
		}
	}
}

func TestOfCountsOthersAsZero(t *testing.T) {
	for _, q := range []api.Q{"", "-", "/", "-/", "1/", "/1", "1/0", "-1/00", "0/0", "+1", "--1", "1/-2", "1/2/3", " 1", "1 ", "1.5", "1e3", "0x1", "1_0", "١", "\xff", "1\x00"} {
		if got := Of(q); got.Q() != "0" || got.Sign() != 0 {
			t.Errorf("Of(%q): %q, want 0", q, got.Q())
		}
	}
}

func TestZeroValueIsZero(t *testing.T) {
	var x F
	decimal, ok := x.Decimal(1)
	if x.Q() != "0" || x.Sign() != 0 || x.Compare(Of("0")) != 0 || x.Times(Of("3/2")).Q() != "0" || decimal != "0" || !ok {
		t.Errorf("the zero value isn't 0: %q, %q", x.Q(), decimal)
	}
}

func TestNothingIsShorterThanOne(t *testing.T) {
	for q, want := range map[api.Q]int{"0": 0, "1": 1, "-1": 1, "2": 2, "-3": 2, "1/2": 3, "1/3": 3, "4294967296": 33, "-5/4294967296": 36} {
		if got := Of(q).Bits(); got != want {
			t.Errorf("%s is %d long, want %d", q, got, want)
		}
	}
}

func TestOverZeroIsZero(t *testing.T) {
	for _, q := range []api.Q{"0", "1", "-2/3"} {
		if got := Of(q).Over(F{}); got.Q() != "0" {
			t.Errorf("%s over 0: %s", q, got.Q())
		}
	}
}

func TestTen(t *testing.T) {
	for n, want := range map[int]api.Q{0: "1", 1: "10", 2: "100", -1: "1/10", 12: "1000000000000", -15: "1/1000000000000000"} {
		if got := Ten(n).Q(); got != want {
			t.Errorf("Ten(%d): %q, want %q", n, got, want)
		}
	}
	if got, want := string(Ten(4000).Q()), "1"+strings.Repeat("0", 4000); got != want {
		t.Error("Ten(4000) is something else")
	}
}

func TestDecimal(t *testing.T) {
	for _, c := range []struct {
		q    api.Q
		most int
		want string
		ok   bool
	}{
		{"0", 1, "0", true}, {"5", 1, "5", true}, {"10", 2, "10", true}, {"10", 1, "", false},
		{"1/2", 3, "0.5", true}, {"1/2", 2, "", false}, {"-1/8", 5, "0.125", true}, {"1/8", 4, "", false},
		{"1/3", 50, "", false}, {"22/7", 50, "", false}, {"100001/1000", 7, "100.001", true},
	} {
		got, ok := Of(c.q).Decimal(c.most)
		if got != c.want || ok != c.ok {
			t.Errorf("%s in %d bytes: %q, %v, want %q, %v", c.q, c.most, got, ok, c.want, c.ok)
		}
	}
}

func TestDecimalsEndOfTwosAndFivesAlone(t *testing.T) {
	for _, twos := range []int64{0, 1, 2, 30, 31, 32, 33, 62, 63, 64, 100} {
		for _, fives := range []int64{0, 1, 12, 13, 14, 26, 27, 50} {
			bar := new(big.Int).Mul(new(big.Int).Exp(big.NewInt(2), big.NewInt(twos), nil), new(big.Int).Exp(big.NewInt(5), big.NewInt(fives), nil))
			for _, other := range []int64{1, 3, 7, 11, 4294967291, 3 * 4294967291} {
				q := api.Q("1/" + new(big.Int).Mul(bar, big.NewInt(other)).String())
				text, ok := Of(q).Decimal(300)
				if ok != (other == 1) {
					t.Fatalf("%s as a decimal: %q, %v", q, text, ok)
				}
				if !ok {
					continue
				}
				if back, right := new(big.Rat).SetString(text); !right || back.Cmp(new(big.Rat).SetFrac(big.NewInt(1), bar)) != 0 {
					t.Fatalf("%s as a decimal: %q", q, text)
				}
			}
		}
	}
}

// someNat draws words among which the edges of a word are frequent: guesses of a quotient's digits are wrong only there.
func someNat(r *rand.Rand, most int) nat {
	x := make(nat, r.Intn(most+1))
	for i := range x {
		switch r.Intn(5) {
		case 0:
			x[i] = 0
		case 1:
			x[i] = maxWord
		case 2:
			x[i] = 1 << 31
		case 3:
			x[i] = uint32(r.Intn(3))
		default:
			x[i] = r.Uint32()
		}
	}
	return trim(x)
}

func bigOf(x nat) *big.Int {
	out := new(big.Int)
	for i := len(x) - 1; i >= 0; i-- {
		out.Lsh(out, wordBits)
		out.Or(out, big.NewInt(int64(x[i])))
	}
	return out
}

func sameNat(t *testing.T, what string, got nat, want *big.Int) {
	t.Helper()
	if bigOf(got).Cmp(want) != 0 || len(got) > 0 && got[len(got)-1] == 0 {
		t.Fatalf("%s: %v, want %v", what, got, want)
	}
}

func TestNatsAgainstAnotherReckoner(t *testing.T) {
	r := rand.New(rand.NewSource(1))
	for range 20000 {
		x, y := someNat(r, 8), someNat(r, 5)
		a, b := bigOf(x), bigOf(y)
		if compare(x, y) != a.Cmp(b) {
			t.Fatalf("compare %v and %v", x, y)
		}
		if x.text() != a.String() {
			t.Fatalf("text of %v: %s", x, x.text())
		}
		sameNat(t, "read", readNat("00"+a.String()), a)
		sameNat(t, "times", times(x, y), new(big.Int).Mul(a, b))
		sameNat(t, "plus", plus(x, y), new(big.Int).Add(a, b))
		if a.Cmp(b) >= 0 {
			sameNat(t, "minus", minus(x, y), new(big.Int).Sub(a, b))
		}
		if x.bits() != a.BitLen() {
			t.Fatalf("%v has %d bits", x, x.bits())
		}
		sameNat(t, "divisor", commonDivisor(x, y), new(big.Int).GCD(nil, nil, a, b))
		if len(y) == 0 {
			continue
		}
		quotient, rest := divide(x, y)
		q, m := new(big.Int).QuoRem(a, b, new(big.Int))
		sameNat(t, "quotient", quotient, q)
		sameNat(t, "rest", rest, m)
		sameNat(t, "what was handed in", x, a)
		sameNat(t, "what was handed in", y, b)
	}
}

// A guessed digit that is still one too great behind the guess is rare: this is one such.
func TestDivideGivesBack(t *testing.T) {
	x, y := nat{0, 0, 1 << 31, 1<<31 - 1}, nat{1, 0, 1 << 31}
	quotient, rest := divide(x, y)
	q, m := new(big.Int).QuoRem(bigOf(x), bigOf(y), new(big.Int))
	sameNat(t, "quotient", quotient, q)
	sameNat(t, "rest", rest, m)
}

func sameDivisor(t *testing.T, x, y nat) {
	t.Helper()
	sameNat(t, "divisor", commonDivisor(x, y), new(big.Int).GCD(nil, nil, bigOf(x), bigOf(y)))
}

// Long ones that have much in common, little, nothing, all; one far longer than the other; some that are nearly the same.
func TestCommonDivisorsOfLongOnes(t *testing.T) {
	r := rand.New(rand.NewSource(3))
	for range 3000 {
		x, y, common := someNat(r, 30), someNat(r, 30), someNat(r, 15)
		sameDivisor(t, x, y)
		sameDivisor(t, times(x, common), times(y, common))
		sameDivisor(t, times(x, common), common)
		sameDivisor(t, plus(x, word(uint32(r.Intn(3)))), x)
		sameDivisor(t, plus(times(x, common), word(1)), times(x, common))
	}
}

// Those with which Euclid goes on for longest, and whose quotients are all 1.
func TestCommonDivisorsOfFibonacci(t *testing.T) {
	x, y := nat{1}, nat{1}
	for range 1000 {
		x, y = plus(x, y), x
		sameDivisor(t, x, y)
		sameDivisor(t, times(x, nat{6, 5}), times(y, nat{9, 7}))
	}
}

// someFraction is now long, now short: bars of short ones often share something.
func someFraction(r *rand.Rand) (F, *big.Rat) {
	up, down := someNat(r, 4), someNat(r, 3)
	if r.Intn(2) == 0 {
		up, down = word(uint32(r.Intn(30))), word(uint32(r.Intn(13)))
	}
	if len(down) == 0 {
		down = nat{1}
	}
	q := api.Q(up.text() + "/" + down.text())
	if r.Intn(2) == 0 {
		q = "-" + q
	}
	want, _ := new(big.Rat).SetString(string(q))
	return Of(q), want
}

func TestFractionsAgainstAnotherReckoner(t *testing.T) {
	r := rand.New(rand.NewSource(2))
	for range 10000 {
		x, a := someFraction(r)
		y, b := someFraction(r)
		if string(x.Q()) != a.RatString() {
			t.Fatalf("%s, want %s", x.Q(), a.RatString())
		}
		if got, want := x.Times(y).Q(), new(big.Rat).Mul(a, b).RatString(); string(got) != want {
			t.Fatalf("%s times %s: %s, want %s", x.Q(), y.Q(), got, want)
		}
		if got, want := x.Plus(y).Q(), new(big.Rat).Add(a, b).RatString(); string(got) != want {
			t.Fatalf("%s plus %s: %s, want %s", x.Q(), y.Q(), got, want)
		}
		if got, want := x.Minus(y).Q(), new(big.Rat).Sub(a, b).RatString(); string(got) != want {
			t.Fatalf("%s minus %s: %s, want %s", x.Q(), y.Q(), got, want)
		}
		over := new(big.Rat)
		if b.Sign() != 0 {
			over.Quo(a, b)
		}
		if got := x.Over(y).Q(); string(got) != over.RatString() {
			t.Fatalf("%s over %s: %s, want %s", x.Q(), y.Q(), got, over.RatString())
		}
		if got, want := x.Bar().Q(), new(big.Rat).SetInt(a.Denom()).RatString(); string(got) != want {
			t.Fatalf("below the bar of %s: %s, want %s", x.Q(), got, want)
		}
		if got, want := x.Compare(y), a.Cmp(b); got != want {
			t.Fatalf("%s against %s: %d, want %d", x.Q(), y.Q(), got, want)
		}
		if got, want := x.Abs().Q(), new(big.Rat).Abs(a).RatString(); string(got) != want {
			t.Fatalf("%s without its sign: %s, want %s", x.Q(), got, want)
		}
		if got, want := x.Opposite().Q(), new(big.Rat).Neg(a).RatString(); string(got) != want {
			t.Fatalf("the opposite of %s: %s, want %s", x.Q(), got, want)
		}
		if x.IsZero() != (a.Sign() == 0) || !x.Minus(x).IsZero() || !x.Plus(x.Opposite()).IsZero() {
			t.Fatalf("%s: is it 0?", x.Q())
		}
		if x.Sign() != a.Sign() {
			t.Fatalf("sign of %s: %d", x.Q(), x.Sign())
		}
		x.Decimal(40)
		if string(x.Q()) != a.RatString() {
			t.Fatalf("%s was changed to %s", a.RatString(), x.Q())
		}
	}
}
