package line

import (
	"math/big"
	"math/rand"
	"regexp"
	"slices"
	"strings"
	"testing"

	"voltaic/api"
)

var fraction = regexp.MustCompile(`^-?[0-9]+(/0*[1-9][0-9]*)?$`)

// read is what a text counts as, by the words of the document.
func read(q api.Q) *big.Rat {
	if !fraction.MatchString(string(q)) {
		return whole(0)
	}
	up, down, _ := strings.Cut(string(q), "/")
	x, _ := new(big.Int).SetString(up, 10)
	y := big.NewInt(1)
	if down != "" {
		y.SetString(down, 10)
	}
	return new(big.Rat).SetFrac(x, y)
}

func whole(n int64) *big.Rat       { return big.NewRat(n, 1) }
func plus(x, y *big.Rat) *big.Rat  { return new(big.Rat).Add(x, y) }
func minus(x, y *big.Rat) *big.Rat { return new(big.Rat).Sub(x, y) }
func times(x, y *big.Rat) *big.Rat { return new(big.Rat).Mul(x, y) }
func quo(x, y *big.Rat) *big.Rat   { return new(big.Rat).Quo(x, y) }
func told(x *big.Rat) api.Q        { return api.Q(x.RatString()) }

// pair is a complex fraction.
type pair struct{ re, im *big.Rat }

func pairOf(z api.Z) pair { return pair{read(z.Re), read(z.Im)} }

func (x pair) told() api.Z { return api.Z{Re: told(x.re), Im: told(x.im)} }

func (x pair) squares() *big.Rat { return plus(times(x.re, x.re), times(x.im, x.im)) }

func (x pair) is(re, im *big.Rat) bool { return x.re.Cmp(re) == 0 && x.im.Cmp(im) == 0 }

func product(x, y pair) pair {
	return pair{minus(times(x.re, y.re), times(x.im, y.im)), plus(times(x.re, y.im), times(x.im, y.re))}
}

func quotient(x, y pair) pair {
	out := product(x, pair{y.re, minus(whole(0), y.im)})
	return pair{quo(out.re, y.squares()), quo(out.im, y.squares())}
}

func reckonReflect(z pair, z0 *big.Rat) (pair, api.Errno) {
	switch {
	case z0.Sign() <= 0:
		return pair{}, api.ErrValue
	case z.is(minus(whole(0), z0), whole(0)):
		return pair{}, api.ErrZero
	}
	return quotient(pair{minus(z.re, z0), z.im}, pair{plus(z.re, z0), z.im}), api.OK
}

func reckonEnds(g pair, z0 *big.Rat) (pair, api.Errno) {
	switch {
	case z0.Sign() <= 0:
		return pair{}, api.ErrValue
	case g.is(whole(1), whole(0)):
		return pair{}, api.ErrZero
	}
	x := quotient(pair{plus(whole(1), g.re), g.im}, pair{minus(whole(1), g.re), minus(whole(0), g.im)})
	return pair{times(z0, x.re), times(z0, x.im)}, api.OK
}

func reckonAlong(z pair, z0 *big.Rat, u pair) (pair, api.Errno) {
	if u.squares().Cmp(whole(1)) != 0 {
		return pair{}, api.ErrForm
	}
	g, e := reckonReflect(z, z0)
	if e != api.OK {
		return pair{}, e
	}
	return reckonEnds(product(g, u), z0)
}

// reckonBounce lets a wave go, word by word as the chapter does.
func reckonBounce(v, rs, z0, rl *big.Rat, steps int) ([]api.Q, api.Errno) {
	switch {
	case steps < 0 || steps > 50:
		return nil, api.ErrMany
	case rs.Sign() < 0 || rl.Sign() < 0 || z0.Sign() <= 0:
		return nil, api.ErrValue
	}
	wave := quo(times(v, z0), plus(rs, z0))
	near, far := wave, whole(0)
	out := []api.Q{told(near)}
	for range steps {
		if len(out)%2 == 1 {
			back := times(wave, sentBack(rl, z0))
			far, wave = plus(far, plus(wave, back)), back
			out = append(out, told(far))
		} else {
			back := times(wave, sentBack(rs, z0))
			near, wave = plus(near, plus(wave, back)), back
			out = append(out, told(near))
		}
	}
	return out, api.OK
}

func sentBack(r, z0 *big.Rat) *big.Rat { return quo(minus(r, z0), plus(r, z0)) }

// someLong draws a fraction above 0 with so many bits above and below its bar, and one more.
func someLong(r *rand.Rand, bits uint) *big.Rat {
	most := new(big.Int).Lsh(big.NewInt(1), bits)
	draw := func() *big.Int { return new(big.Int).Add(most, new(big.Int).Rand(r, most)) }
	return new(big.Rat).SetFrac(draw(), draw())
}

// some draws a fraction: few are 0, few are long, and many are alike.
func some(r *rand.Rand) *big.Rat {
	switch r.Intn(12) {
	case 0:
		return whole(0)
	case 1:
		return minus(someLong(r, 200), someLong(r, 200))
	case 2, 3, 4:
		return big.NewRat(r.Int63n(2e9)-1e9, 1+r.Int63n(1e9))
	}
	return big.NewRat(r.Int63n(11)-5, 1+r.Int63n(4))
}

func someAbove(r *rand.Rand) *big.Rat {
	return plus(new(big.Rat).Abs(some(r)), big.NewRat(1, 1+r.Int63n(3)))
}

func somePair(r *rand.Rand) pair { return pair{some(r), some(r)} }

// someTurn draws one whose squares add up to 1: a number over its mirror image.
func someTurn(r *rand.Rand) pair {
	x := somePair(r)
	if x.squares().Sign() == 0 {
		return pair{whole(-1), whole(0)}
	}
	return quotient(x, pair{x.re, minus(whole(0), x.im)})
}

// spoilt tells a fraction in another form, or, now and then, as what is none.
func spoilt(r *rand.Rand, x *big.Rat) api.Q {
	by := big.NewInt(1 + r.Int63n(30))
	switch r.Intn(8) {
	case 0:
		return []api.Q{"", "x", "1.5", "1/0", "-", "/", "1/", "/2", "--1", "1/-2", " 1", "1e3", "0x1", "+1", "1_0", "٣", "1/2/3", "\xff", "-0", "-0/7"}[r.Intn(20)]
	case 1:
		return api.Q(new(big.Int).Mul(x.Num(), by).String() + "/" + new(big.Int).Mul(x.Denom(), by).String())
	case 2:
		noughts := strings.NewReplacer("-", "-00", "/", "/00")
		return api.Q(noughts.Replace(x.RatString()))
	}
	return told(x)
}

func spoiltPair(r *rand.Rand, x pair) api.Z { return api.Z{Re: spoilt(r, x.re), Im: spoilt(r, x.im)} }

func toldOf(x pair, e api.Errno) (api.Z, api.Errno) {
	if e != api.OK {
		return api.Z{}, e
	}
	return x.told(), e
}

// often tells how often each error was seen, and asks that each of those that are named was.
type often map[api.Errno]int

func (o often) wantSeen(t *testing.T, codes ...api.Errno) {
	t.Helper()
	for _, e := range codes {
		if o[e] < 20 {
			t.Errorf("error %d was seen %d times", e, o[e])
		}
	}
}

func TestReflectAndEndsAgainstAnotherReckoner(t *testing.T) {
	r := rand.New(rand.NewSource(11))
	reflected, ended := often{}, often{}
	for range 4000 {
		x, ohms := somePair(r), someAbove(r)
		switch r.Intn(8) {
		case 0:
			x = pair{minus(whole(0), ohms), whole(0)}
		case 1:
			x = pair{whole(1), whole(0)}
		case 2:
			ohms = some(r)
		}
		z, z0 := spoiltPair(r, x), spoilt(r, ohms)
		want, code := toldOf(reckonReflect(pairOf(z), read(z0)))
		if got, e := Reflect(z, z0); got != want || e != code {
			t.Fatalf("Reflect(%q, %q): %v, %d, want %v, %d", z, z0, got, e, want, code)
		}
		reflected[code]++
		want, code = toldOf(reckonEnds(pairOf(z), read(z0)))
		if got, e := Ends(z, z0); got != want || e != code {
			t.Fatalf("Ends(%q, %q): %v, %d, want %v, %d", z, z0, got, e, want, code)
		}
		ended[code]++
	}
	reflected.wantSeen(t, api.OK, api.ErrValue, api.ErrZero)
	ended.wantSeen(t, api.OK, api.ErrValue, api.ErrZero)
}

func TestAlongAgainstAnotherReckoner(t *testing.T) {
	r := rand.New(rand.NewSource(12))
	seen := often{}
	for range 4000 {
		x, ohms, turn := somePair(r), someAbove(r), someTurn(r)
		switch r.Intn(8) {
		case 0:
			x = pair{minus(whole(0), ohms), whole(0)}
		case 1: // what has no real part sends all back: turned to 1
			x.re = whole(0)
			g, _ := reckonReflect(x, ohms)
			turn = pair{g.re, minus(whole(0), g.im)}
		case 2:
			ohms = some(r)
		case 3:
			turn = somePair(r)
		}
		z, z0, u := x.told(), told(ohms), turn.told()
		if r.Intn(2) == 0 {
			z, z0, u = spoiltPair(r, x), spoilt(r, ohms), spoiltPair(r, turn)
		}
		want, code := toldOf(reckonAlong(pairOf(z), read(z0), pairOf(u)))
		if got, e := Along(z, z0, u); got != want || e != code {
			t.Fatalf("Along(%q, %q, %q): %v, %d, want %v, %d", z, z0, u, got, e, want, code)
		}
		seen[code]++
	}
	seen.wantSeen(t, api.OK, api.ErrForm, api.ErrValue, api.ErrZero)
}

// someLine draws v, rs, z0 and rl with which nothing is wrong, now and then with ends that send nothing or all back.
func someLine(r *rand.Rand) (v, rs, z0, rl *big.Rat) {
	v, rs, z0, rl = some(r), new(big.Rat).Abs(some(r)), someAbove(r), new(big.Rat).Abs(some(r))
	switch r.Intn(8) {
	case 0:
		rs = z0
	case 1:
		rl = z0
	case 2:
		rs = whole(0)
	case 3:
		rl = whole(0)
	case 4:
		rs, rl = whole(0), whole(0)
	}
	return v, rs, z0, rl
}

func TestBounceAgainstAnotherReckoner(t *testing.T) {
	r := rand.New(rand.NewSource(13))
	seen := often{}
	for range 600 {
		v, rs, z0, rl := someLine(r)
		steps := r.Intn(api.MaxSteps + 1)
		switch r.Intn(12) {
		case 0:
			rs = some(r)
		case 1:
			rl = some(r)
		case 2:
			z0 = some(r)
		case 3:
			steps = r.Intn(3*api.MaxSteps) - api.MaxSteps
		}
		l := []api.Q{spoilt(r, v), spoilt(r, rs), spoilt(r, z0), spoilt(r, rl)}
		want, code := reckonBounce(read(l[0]), read(l[1]), read(l[2]), read(l[3]), steps)
		if got, e := Bounce(l[0], l[1], l[2], l[3], steps); !slices.Equal(got, want) || e != code || (got == nil) != (want == nil) {
			t.Fatalf("Bounce(%q, %d): %v, %d, want %v, %d", l, steps, got, e, want, code)
		}
		seen[code]++
	}
	seen.wantSeen(t, api.OK, api.ErrMany, api.ErrValue)
}

// What is told in lowest terms is what they began with, to the byte.
func TestEndsOfReflectAndReflectOfEnds(t *testing.T) {
	r := rand.New(rand.NewSource(14))
	done := 0
	for range 2000 {
		x, z0 := somePair(r).told(), told(someAbove(r))
		if g, e := Reflect(x, z0); e == api.OK {
			done++
			if z, e := Ends(g, z0); z != x || e != api.OK {
				t.Fatalf("Ends(Reflect(%v, %s)): %v, %d", x, z0, z, e)
			}
		}
		if z, e := Ends(x, z0); e == api.OK {
			done++
			if g, e := Reflect(z, z0); g != x || e != api.OK {
				t.Fatalf("Reflect(Ends(%v, %s)): %v, %d", x, z0, g, e)
			}
		}
	}
	if done < 3500 {
		t.Errorf("only %d had an answer", done)
	}
}

// One turn after another is both at once; 1 leaves all as it is.
func TestAlongAndOnwards(t *testing.T) {
	r := rand.New(rand.NewSource(15))
	done := 0
	for range 1000 {
		z, z0, u, w := somePair(r).told(), told(someAbove(r)), someTurn(r), someTurn(r)
		if same, e := Along(z, z0, api.Z{Re: "1"}); e == api.OK && same != z {
			t.Fatalf("Along(%v, %s, 1): %v", z, z0, same)
		}
		halfway, e := Along(z, z0, u.told())
		if e != api.OK {
			continue
		}
		onwards, e := Along(halfway, z0, w.told())
		atOnce, e2 := Along(z, z0, product(u, w).told())
		if onwards != atOnce || e != e2 {
			t.Fatalf("Along(%v, %s, %v, then %v): %v, %d, at once %v, %d", z, z0, u.told(), w.told(), onwards, e, atOnce, e2)
		}
		done++
	}
	if done < 800 {
		t.Errorf("only %d had an answer", done)
	}
}

// P11.3: what has no real part below 0 sends back no more than came: all of it if the real part is 0, less if it is above 0, and more if it is below 0.
func TestNoMoreGoesBackThanCame(t *testing.T) {
	r := rand.New(rand.NewSource(16))
	seen := map[int]int{}
	for range 2000 {
		z, z0 := somePair(r), told(someAbove(r))
		g, e := Reflect(z.told(), z0)
		if e != api.OK {
			continue
		}
		if more := pairOf(g).squares().Cmp(whole(1)); more != -z.re.Sign() {
			t.Fatalf("Reflect(%v, %s): %v", z.told(), z0, g)
		}
		seen[z.re.Sign()]++
	}
	if seen[-1] < 100 || seen[0] < 100 || seen[1] < 100 {
		t.Errorf("too few were seen: %v", seen)
	}
}

// P11.3: what is between an end's volts and those that it comes to is, two steps later, times what a round leaves what it was.
func TestWhatIsLeftAfterARound(t *testing.T) {
	r := rand.New(rand.NewSource(17))
	for range 200 {
		v, rs, z0, rl := someLine(r)
		if plus(rs, rl).Sign() == 0 {
			continue
		}
		last := quo(times(v, rl), plus(rs, rl))
		round := times(sentBack(rs, z0), sentBack(rl, z0))
		got, e := Bounce(told(v), told(rs), told(z0), told(rl), 20)
		if e != api.OK || len(got) != 21 {
			t.Fatalf("Bounce(%v, %v, %v, %v, 20): %v, %d", v, rs, z0, rl, got, e)
		}
		for i := range len(got) - 2 {
			was, is := minus(read(got[i]), last), minus(read(got[i+2]), last)
			if is.Cmp(times(was, round)) != 0 {
				t.Fatalf("Bounce(%v, %v, %v, %v): %v at %d", v, rs, z0, rl, got, i)
			}
		}
	}
}

// What is told of fewer steps is the beginning of what is told of more.
func TestStepsGoOn(t *testing.T) {
	r := rand.New(rand.NewSource(18))
	for range 20 {
		v, rs, z0, rl := someLine(r)
		all, _ := Bounce(told(v), told(rs), told(z0), told(rl), api.MaxSteps)
		for steps := range api.MaxSteps {
			if some, e := Bounce(told(v), told(rs), told(z0), told(rl), steps); e != api.OK || !slices.Equal(some, all[:steps+1]) {
				t.Fatalf("Bounce(%v, %v, %v, %v, %d): %v, %d", v, rs, z0, rl, steps, some, e)
			}
		}
	}
}

// Fractions of some hundred digits in all places, as many steps as may be.
func TestBounceOfVeryLongOnes(t *testing.T) {
	r := rand.New(rand.NewSource(19))
	v, rs, z0, rl := someLong(r, 700), someLong(r, 700), someLong(r, 700), someLong(r, 700)
	want, _ := reckonBounce(v, rs, z0, rl, api.MaxSteps)
	if got, e := Bounce(told(v), told(rs), told(z0), told(rl), api.MaxSteps); !slices.Equal(got, want) || e != api.OK {
		t.Errorf("of fractions of some 200 digits: %d, and %d numbers", e, len(got))
	}
}
