package frac

import (
	"math/big"
	"math/rand"
	"testing"

	"voltaic/api"
)

func TestOfWord(t *testing.T) {
	for w, want := range map[uint32]api.Q{0: "0", 1: "1", 12: "12", maxWord: "4294967295"} {
		if got := OfWord(w); got.Q() != want || got.IsZero() != (w == 0) {
			t.Errorf("OfWord(%d): %s", w, got.Q())
		}
	}
}

func TestCommon(t *testing.T) {
	for _, c := range []struct{ x, y, want api.Q }{
		{"0", "0", "0"}, {"0", "-3/2", "3/2"}, {"5", "0", "5"}, {"6", "4", "2"}, {"-6", "4", "2"}, {"7", "-1", "1"},
		{"1/2", "1/3", "1/6"}, {"3/4", "9/10", "3/20"}, {"4/3", "2", "2/3"}, {"-5/7", "-5/7", "5/7"},
	} {
		if got := Of(c.x).Common(Of(c.y)).Q(); got != c.want {
			t.Errorf("Common of %s and %s: %s, want %s", c.x, c.y, got, c.want)
		}
	}
}

func TestParted(t *testing.T) {
	for _, c := range []struct{ x, y, often, rest api.Q }{
		{"0", "5", "0", "0"}, {"7", "5", "1", "2"}, {"8", "5", "2", "-2"}, {"-7", "5", "-1", "-2"}, {"-8", "5", "-2", "2"},
		{"2", "5", "0", "2"}, {"3", "5", "1", "-2"}, {"-3", "5", "-1", "2"}, {"10", "5", "2", "0"}, {"3", "6", "0", "3"}, {"-9", "6", "-1", "-3"}, {"6", "1", "6", "0"},
	} {
		if often, rest := Of(c.x).Parted(Of(c.y)); often.Q() != c.often || rest.Q() != c.rest {
			t.Errorf("%s parted by %s: %s, %s, want %s, %s", c.x, c.y, often.Q(), rest.Q(), c.often, c.rest)
		}
	}
}

func TestCommonAgainstAnotherReckoner(t *testing.T) {
	r := rand.New(rand.NewSource(1))
	for range 2000 {
		x, xRat := someFraction(r)
		y, yRat := someFraction(r)
		common := x.Common(y)
		if xRat.Sign() == 0 || yRat.Sign() == 0 {
			continue
		}
		by, _ := new(big.Rat).SetString(string(common.Q()))
		often, more := new(big.Rat).Quo(xRat, by), new(big.Rat).Quo(yRat, by)
		shared := new(big.Int).GCD(nil, nil, new(big.Int).Abs(often.Num()), new(big.Int).Abs(more.Num()))
		if common.Sign() <= 0 || !often.IsInt() || !more.IsInt() || shared.Cmp(big.NewInt(1)) != 0 {
			t.Fatalf("Common of %s and %s: %s", x.Q(), y.Q(), common.Q())
		}
	}
}

func TestPartedAddsUp(t *testing.T) {
	r := rand.New(rand.NewSource(2))
	for range 2000 {
		x, _ := someFraction(r)
		y, _ := someFraction(r)
		x, y = x.Times(x.Bar()), y.Times(y.Bar()).Abs()
		if y.IsZero() {
			continue
		}
		often, rest := x.Parted(y)
		half := y.Over(Of("2"))
		if often.Times(y).Plus(rest).Compare(x) != 0 || rest.Abs().Compare(half) > 0 || !often.isWhole() {
			t.Fatalf("%s parted by %s: %s, %s", x.Q(), y.Q(), often.Q(), rest.Q())
		}
	}
}

func TestLeft(t *testing.T) {
	for _, c := range []struct {
		x     api.Q
		prime uint32
		want  uint32
		ok    bool
	}{
		{"0", 7, 0, true}, {"9", 7, 2, true}, {"-9", 7, 5, true}, {"14", 7, 0, true}, {"-14", 7, 0, true},
		{"1/2", 7, 4, true}, {"-1/2", 7, 3, true}, {"7/2", 7, 0, true}, {"1/7", 7, 0, false}, {"-3/14", 7, 0, false},
		{"1/3", 2, 1, true}, {"1/2", 2, 0, false}, {"4294967291", 4294967291, 0, true}, {"-1", 4294967291, 4294967290, true}, {"1/8589934582", 4294967291, 0, false},
	} {
		if got, ok := Of(c.x).Left(c.prime); got != c.want || ok != c.ok {
			t.Errorf("%s counted up to %d: %d, %v, want %d, %v", c.x, c.prime, got, ok, c.want, c.ok)
		}
	}
}

func TestLeftAgainstAnotherReckoner(t *testing.T) {
	r := rand.New(rand.NewSource(7))
	for range 2000 {
		x, xRat := someFraction(r)
		prime := []uint32{2, 3, 5, 65537, 2147483647, 4294967291}[r.Intn(6)]
		whole := big.NewInt(int64(prime))
		turned := new(big.Int).ModInverse(xRat.Denom(), whole)
		got, ok := x.Left(prime)
		if ok != (turned != nil) {
			t.Fatalf("%v counted up to %d: %v", xRat, prime, ok)
		}
		if !ok {
			continue
		}
		want := new(big.Int).Mul(xRat.Num(), turned)
		if want.Mod(want, whole); want.Cmp(big.NewInt(int64(got))) != 0 {
			t.Fatalf("%v counted up to %d: %d, want %v", xRat, prime, got, want)
		}
	}
}
