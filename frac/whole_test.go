package frac

import (
	"math/big"
	"math/rand"
	"testing"

	"voltaic/api"
)

func TestCommon(t *testing.T) {
	for _, c := range []struct{ x, y, want api.Q }{
		{"0", "0", "0"}, {"0", "-3/2", "3/2"}, {"5", "0", "5"}, {"6", "4", "2"}, {"-6", "4", "2"}, {"7", "-1", "1"},
		{"1/2", "1/3", "1/6"}, {"3/4", "9/10", "3/20"}, {"4/3", "2", "2/3"}, {"-5/7", "-5/7", "5/7"},
	} {
		if got := Of(c.x).Common(Of(c.y)).Q(); got != c.want {
			t.Errorf("Common of %s and %s: %s, want %s", c.x, c.y, got, c.want)
		}
	}
}

func TestParted(t *testing.T) {
	for _, c := range []struct{ x, y, often, rest api.Q }{
		{"0", "5", "0", "0"}, {"7", "5", "1", "2"}, {"8", "5", "2", "-2"}, {"-7", "5", "-1", "-2"}, {"-8", "5", "-2", "2"},
		{"2", "5", "0", "2"}, {"3", "5", "1", "-2"}, {"-3", "5", "-1", "2"}, {"10", "5", "2", "0"}, {"3", "6", "0", "3"}, {"-9", "6", "-1", "-3"}, {"6", "1", "6", "0"},
	} {
		if often, rest := Of(c.x).Parted(Of(c.y)); often.Q() != c.often || rest.Q() != c.rest {
			t.Errorf("%s parted by %s: %s, %s, want %s, %s", c.x, c.y, often.Q(), rest.Q(), c.often, c.rest)
		}
	}
}

func TestCommonAgainstAnotherReckoner(t *testing.T) {
	r := rand.New(rand.NewSource(1))
	for range 2000 {
		x, xRat := someFraction(r)
		y, yRat := someFraction(r)
		common := x.Common(y)
		if xRat.Sign() == 0 || yRat.Sign() == 0 {
			continue
		}
		by, _ := new(big.Rat).SetString(string(common.Q()))
		often, more := new(big.Rat).Quo(xRat, by), new(big.Rat).Quo(yRat, by)
		shared := new(big.Int).GCD(nil, nil, new(big.Int).Abs(often.Num()), new(big.Int).Abs(more.Num()))
		if common.Sign() <= 0 || !often.IsInt() || !more.IsInt() || shared.Cmp(big.NewInt(1)) != 0 {
			t.Fatalf("Common of %s and %s: %s", x.Q(), y.Q(), common.Q())
		}
	}
}

func TestPartedAddsUp(t *testing.T) {
	r := rand.New(rand.NewSource(2))
	for range 2000 {
		x, _ := someFraction(r)
		y, _ := someFraction(r)
		x, y = x.Times(x.Bar()), y.Times(y.Bar()).Abs()
		if y.IsZero() {
			continue
		}
		often, rest := x.Parted(y)
		half := y.Over(Of("2"))
		if often.Times(y).Plus(rest).Compare(x) != 0 || rest.Abs().Compare(half) > 0 || !often.isWhole() {
			t.Fatalf("%s parted by %s: %s, %s", x.Q(), y.Q(), often.Q(), rest.Q())
		}
	}
}
