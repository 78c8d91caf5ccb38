package frac

import (
	"math/bits"
	"slices"
	"strconv"
	"strings"
)

// nat is a whole number from 0 on: its words, the lowest first, the last one not 0. So 0 has no words.
type nat []uint32

const (
	wordBits = 32
	maxWord  = 1<<wordBits - 1
	// As many digits as a word always holds, and what one more than the greatest of them is.
	chunkDigits = 9
	chunkBase   = 1000000000
)

// trim takes noughts off the end, so that one number has one form.
func trim(x nat) nat {
	for len(x) > 0 && x[len(x)-1] == 0 {
		x = x[:len(x)-1]
	}
	return x
}

func word(w uint32) nat { return trim(nat{w}) }

func isOne(x nat) bool { return len(x) == 1 && x[0] == 1 }

func (x nat) bits() int {
	if len(x) == 0 {
		return 0
	}
	return wordBits*(len(x)-1) + bits.Len32(x[len(x)-1])
}

// compare answers -1, 0 or 1, as x is below y, the same, or above it.
func compare(x, y nat) int {
	if len(x) != len(y) {
		return sign(len(x) - len(y))
	}
	for i := len(x) - 1; i >= 0; i-- {
		if x[i] < y[i] {
			return -1
		}
		if x[i] > y[i] {
			return 1
		}
	}
	return 0
}

func sign(d int) int {
	switch {
	case d < 0:
		return -1
	case d > 0:
		return 1
	}
	return 0
}

// grow makes x times by, plus more, in x's own words: a long text would else copy them once for each of its chunks.
func grow(x nat, by, more uint32) nat {
	carry := uint64(more)
	for i, w := range x {
		carry += uint64(w) * uint64(by)
		x[i] = uint32(carry)
		carry >>= wordBits
	}
	if carry > 0 {
		x = append(x, uint32(carry))
	}
	return x
}

// shrink divides x by a word that isn't 0, in x's own words, and answers what is left over, too.
func shrink(x nat, by uint32) (nat, uint32) {
	var rest uint64
	for i := len(x) - 1; i >= 0; i-- {
		rest = rest<<wordBits | uint64(x[i])
		x[i] = uint32(rest / uint64(by))
		rest %= uint64(by)
	}
	return trim(x), uint32(rest)
}

// left is what is left over when x is divided by a word that isn't 0.
func (x nat) left(by uint32) uint32 {
	var rest uint64
	for i := len(x) - 1; i >= 0; i-- {
		rest = (rest<<wordBits | uint64(x[i])) % uint64(by)
	}
	return uint32(rest)
}

// dividesTens tells whether x, which isn't 0, divides a power of ten: then nothing but twos and fives is in it. The greatest powers of these that a word holds are taken out first, so that long numbers are gone through less often.
func dividesTens(x nat) bool {
	rest := slices.Clone(x)
	for _, by := range [...]uint32{1 << 31, 2, 1220703125, 5} {
		for rest.left(by) == 0 {
			rest, _ = shrink(rest, by)
		}
	}
	return isOne(rest)
}

func plus(x, y nat) nat {
	if len(x) < len(y) {
		x, y = y, x
	}
	out := make(nat, len(x)+1)
	var carry uint64
	for i, w := range x {
		carry += uint64(w)
		if i < len(y) {
			carry += uint64(y[i])
		}
		out[i] = uint32(carry)
		carry >>= wordBits
	}
	out[len(x)] = uint32(carry)
	return trim(out)
}

// minus takes y, which isn't above x, from x.
func minus(x, y nat) nat {
	out := slices.Clone(x)
	var owed uint32
	for i := range out {
		take := uint64(owed)
		if i < len(y) {
			take += uint64(y[i])
		}
		owed = 0
		if uint64(out[i]) < take {
			owed = 1
		}
		out[i] -= uint32(take)
	}
	return trim(out)
}

func times(x, y nat) nat {
	out := make(nat, len(x)+len(y))
	for i, a := range x {
		var carry uint64
		for j, b := range y {
			carry += uint64(a)*uint64(b) + uint64(out[i+j])
			out[i+j] = uint32(carry)
			carry >>= wordBits
		}
		out[i+len(y)] = uint32(carry)
	}
	return trim(out)
}

// power is base to the power of n, which isn't below 0, by squares.
func power(base uint32, n int) nat {
	out := nat{1}
	for i := bits.Len(uint(n)) - 1; i >= 0; i-- {
		out = times(out, out)
		if n>>i&1 == 1 {
			out = grow(out, base, 0)
		}
	}
	return out
}

// divide answers how often y, which isn't 0, goes into x, and what is left over: Knuth's algorithm D.
func divide(x, y nat) (nat, nat) {
	if compare(x, y) < 0 {
		return nil, slices.Clone(x)
	}
	if len(y) == 1 {
		quotient, rest := shrink(slices.Clone(x), y[0])
		return quotient, word(rest)
	}
	// With y's highest bit set, a digit's guess from the highest words is at most two too great.
	shift := bits.LeadingZeros32(y[len(y)-1])
	rest := raise(x, shift)
	divisor := trim(raise(y, shift))
	quotient := make(nat, len(x)-len(y)+1)
	for i := len(quotient) - 1; i >= 0; i-- {
		window := rest[i : i+len(divisor)+1]
		digit := guess(window, divisor)
		if takeAway(window, divisor, digit) {
			digit--
			giveBack(window, divisor)
		}
		quotient[i] = uint32(digit)
	}
	return trim(quotient), lower(rest[:len(y)], shift)
}

// over is x divided by a divisor of it.
func over(x, divisor nat) nat {
	if isOne(divisor) {
		return x
	}
	quotient, _ := divide(x, divisor)
	return quotient
}

// raise shifts x up by less than a word's bits, into one word more than x has.
func raise(x nat, shift int) nat {
	out := make(nat, len(x)+1)
	for i, w := range x {
		wide := uint64(w) << shift
		out[i] |= uint32(wide)
		out[i+1] = uint32(wide >> wordBits)
	}
	return out
}

// shifted is x times two to the power of n, which isn't below 0.
func shifted(x nat, n int) nat {
	if n == 0 {
		return x
	}
	return trim(append(make(nat, n/wordBits), raise(x, n%wordBits)...))
}

// lower shifts x down by less than a word's bits.
func lower(x nat, shift int) nat {
	out := make(nat, len(x))
	var above uint64
	for i := len(x) - 1; i >= 0; i-- {
		wide := above<<wordBits | uint64(x[i])
		out[i] = uint32(wide >> shift)
		above = uint64(x[i])
	}
	return trim(out)
}

// guess tells, by the highest words alone, how often y goes into x, which has one word more: so often, or once too often.
func guess(x, y nat) uint64 {
	n := len(y)
	high := uint64(x[n])<<wordBits | uint64(x[n-1])
	first, second := uint64(y[n-1]), uint64(y[n-2])
	digit, rest := high/first, high%first
	for digit > maxWord || digit*second > rest<<wordBits|uint64(x[n-2]) {
		digit--
		rest += first
		if rest > maxWord {
			break
		}
	}
	return digit
}

// takeAway takes digit times y from x, which has one word more, and answers whether that was too much.
func takeAway(x, y nat, digit uint64) bool {
	var owed uint64
	for i, w := range y {
		owed += digit * uint64(w)
		low := uint32(owed)
		owed >>= wordBits
		if x[i] < low {
			owed++
		}
		x[i] -= low
	}
	tooMuch := uint64(x[len(y)]) < owed
	x[len(y)] -= uint32(owed)
	return tooMuch
}

// giveBack adds y to x, which has one word more; what goes beyond that word undoes what was taken too much.
func giveBack(x, y nat) {
	var carry uint64
	for i, w := range y {
		carry += uint64(x[i]) + uint64(w)
		x[i] = uint32(carry)
		carry >>= wordBits
	}
	x[len(y)] += uint32(carry)
}

// commonDivisor is Euclid's way, in Lehmer's strides: many steps can be told by the highest bits alone, and are taken together.
func commonDivisor(x, y nat) nat {
	if compare(x, y) < 0 {
		x, y = y, x
	}
	for y.bits() > strideBits {
		s := strideOf(x, y)
		if s.b == 0 {
			_, rest := divide(x, y)
			x, y = y, rest
			continue
		}
		x, y = combine(x, y, s.a, s.b), combine(x, y, s.c, s.d)
	}
	if len(y) == 0 {
		return x
	}
	_, rest := divide(x, y)
	high, low := y.bitsFrom(0), rest.bitsFrom(0)
	for low > 0 {
		high, low = low, high%low
	}
	return trim(nat{uint32(high), uint32(high >> wordBits)})
}

const (
	strideBits = 62      // the highest bits that are looked at: with what is added to them, an int64 holds them
	strideMost = 1 << 30 // two words times as much, added, are held by one, too
)

// stride takes x and y to a x + b y and c x + d y, several of Euclid's steps ahead.
type stride struct{ a, b, c, d int64 }

// strideOf takes steps as long as it is sure of them, whatever x and y have below their highest bits; b is 0 if it isn't sure of one. y, which has more than strideBits bits, isn't above x.
func strideOf(x, y nat) stride {
	low := x.bits() - strideBits
	high, next := x.bitsFrom(low), y.bitsFrom(low)
	s := stride{1, 0, 0, 1}
	for next+s.c != 0 && next+s.d != 0 {
		quotient := (high + s.a) / (next + s.c)
		if quotient >= strideMost || quotient != (high+s.b)/(next+s.d) {
			break
		}
		c, d := s.a-quotient*s.c, s.b-quotient*s.d
		if max(c, -c, d, -d) >= strideMost {
			break
		}
		s = stride{s.c, s.d, c, d}
		high, next = next, high-quotient*next
	}
	return s
}

// bitsFrom is what x has from that bit on: at most strideBits bits.
func (x nat) bitsFrom(bit int) int64 {
	lowest, shift := bit/wordBits, bit%wordBits
	if lowest >= len(x) {
		return 0
	}
	var out int64
	for i := len(x) - 1; i > lowest; i-- {
		out = out<<wordBits | int64(x[i])
	}
	return out<<(wordBits-shift) | int64(x[lowest]>>shift)
}

// combine is a x + b y, which is from 0 on, and isn't above x; y isn't, either.
func combine(x, y nat, a, b int64) nat {
	out := make(nat, len(x))
	var carry int64
	for i, w := range x {
		carry += a * int64(w)
		if i < len(y) {
			carry += b * int64(y[i])
		}
		out[i] = uint32(carry)
		carry >>= wordBits
	}
	return trim(out)
}

// readNat reads digits; noughts ahead of them cost no words.
func readNat(digits string) nat {
	var out nat
	for len(digits) > 0 {
		// The first chunk is the short one, so that all others are whole.
		size := (len(digits)-1)%chunkDigits + 1
		var chunk uint32
		for i := range size {
			chunk = chunk*10 + uint32(digits[i]-'0')
		}
		out = grow(out, chunkBase, chunk)
		digits = digits[size:]
	}
	return out
}

func (x nat) text() string {
	if len(x) == 0 {
		return "0"
	}
	var chunks []uint32
	for left := slices.Clone(x); len(left) > 0; {
		var chunk uint32
		left, chunk = shrink(left, chunkBase)
		chunks = append(chunks, chunk)
	}
	var out strings.Builder
	for i := len(chunks) - 1; i >= 0; i-- {
		digits := strconv.FormatUint(uint64(chunks[i]), 10)
		if i < len(chunks)-1 {
			out.WriteString(strings.Repeat("0", chunkDigits-len(digits)))
		}
		out.WriteString(digits)
	}
	return out.String()
}
