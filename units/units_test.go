package units

import (
	"math/big"
	"math/rand"
	"strings"
	"testing"
	"unicode/utf8"

	"voltaic/api"
)

var allUnits = []string{"", "Ω", "F", "H", "V", "A", "S", "W", "s", "Hz"}

func wantParse(t *testing.T, text string, q api.Q, unit string) {
	t.Helper()
	gotQ, gotUnit, f := Parse(text)
	if gotQ != q || gotUnit != unit || f != (api.Fault{}) {
		t.Errorf("Parse(%.40q): %.40q, %q, %v, want %.40q, %q", text, gotQ, gotUnit, f, q, unit)
	}
}

func wantFault(t *testing.T, text string, code api.Errno, at int) {
	t.Helper()
	q, unit, f := Parse(text)
	if q != "" || unit != "" || f != (api.Fault{Code: code, At: at}) {
		t.Errorf("Parse(%.40q): %.40q, %q, %v, want the fault %d at %d and nothing else", text, q, unit, f, code, at)
	}
}

func wantPrint(t *testing.T, q api.Q, unit, want string) {
	t.Helper()
	got, e := Print(q, unit)
	if got != want || e != api.OK {
		t.Errorf("Print(%.40q, %q): %.40q, %d, want %.40q", q, unit, got, e, want)
	}
}

func wantErrno(t *testing.T, q api.Q, unit string, want api.Errno) {
	t.Helper()
	got, e := Print(q, unit)
	if got != "" || e != want {
		t.Errorf("Print(%.40q, %q): %.40q, %d, want the error %d and no text", q, unit, got, e, want)
	}
}

// P1.1

func TestParseNumbers(t *testing.T) {
	for text, q := range map[string]api.Q{
		"0": "0", "-0": "0", "00": "0", "0.0": "0", "-0.000": "0", "0T": "0", "-0f": "0",
		"7": "7", "-7": "-7", "007": "7", "007.50": "15/2", "0.5": "1/2", "-0.25": "-1/4", "10": "10", "1.0": "1",
		"123456789012345678901234567890": "123456789012345678901234567890",
	} {
		wantParse(t, text, q, "")
	}
}

func TestParsePrefixes(t *testing.T) {
	for prefix, q := range map[string]api.Q{
		"": "5", "f": "1/200000000000000", "p": "1/200000000000", "n": "1/200000000", "u": "1/200000", "m": "1/200",
		"k": "5000", "M": "5000000", "G": "5000000000", "T": "5000000000000",
		"\u00b5": "1/200000", "\u03bc": "1/200000",
	} {
		for _, unit := range allUnits {
			wantParse(t, "5"+prefix+unit, q, unit)
			wantParse(t, "-5.0"+prefix+unit, "-"+q, unit)
		}
		wantParse(t, "5"+prefix+"\u2126", q, "\u03a9")
	}
}

func TestParseLettersThatCouldBeEither(t *testing.T) {
	wantParse(t, "1f", "1/1000000000000000", "")
	wantParse(t, "1F", "1", "F")
	wantParse(t, "1fF", "1/1000000000000000", "F")
	wantParse(t, "5m", "1/200", "")
	wantParse(t, "5s", "5", "s")
	wantParse(t, "5S", "5", "S")
	wantParse(t, "5ms", "1/200", "s")
	wantParse(t, "5mS", "1/200", "S")
	wantParse(t, "5H", "5", "H")
	wantParse(t, "5Hz", "5", "Hz")
	wantParse(t, "5T", "5000000000000", "")
}

func TestParseWhereDigitsShouldBe(t *testing.T) {
	for text, at := range map[string]int{
		"": 0, "-": 1, "--5": 1, "+5": 0, ".5": 0, "-.5": 1, " 5": 0, "V": 0, "-V": 1, "k": 0, "Ω": 0, "−5": 0, "٣": 0,
		"1.": 2, "-1.": 3, "12.V": 3, "1..5": 2, "1.-5": 2, "1. 5": 2, "-12.k": 4, "\xff": 0,
	} {
		wantFault(t, text, api.ErrText, at)
	}
}

func TestParseWhereTheEndingBegins(t *testing.T) {
	for text, at := range map[string]int{
		"5x": 1, "5kk": 1, "5 V": 1, "5V ": 1, "5VV": 1, "5Vk": 1, "5mm": 1, "5kx": 1, "-5x": 2, "1.5.2": 3, "1.50V\n": 4,
		"5z": 1, "5hz": 1, "5HZ": 1, "5Hzz": 1, "5K": 1, "5g": 1, "5v": 1, "5ω": 1, "5ΩΩ": 1, "5µµ": 1, "5uµF": 1, "5e3": 1,
		"1/2": 1, "5-": 1, "5\x00": 1, "5\xb5F": 1, "5\xce": 1, "5k\xff": 1, "5\ufffd": 1, "5٣": 1, "5,5": 1, "5Ωk": 1, "5ohm": 1,
	} {
		wantFault(t, text, api.ErrText, at)
	}
}

func TestParseLongTexts(t *testing.T) {
	nines := strings.Repeat("9", api.MaxText)
	wantParse(t, nines, api.Q(nines), "")
	wantFault(t, nines+"9", api.ErrMany, 0)
	wantFault(t, strings.Repeat("x", api.MaxText), api.ErrText, 0)
	wantFault(t, strings.Repeat("x", api.MaxText+1), api.ErrMany, 0)
	wantParse(t, strings.Repeat("0", api.MaxText-2)+"4V", "4", "V")
	wantFault(t, strings.Repeat("0", api.MaxText-1)+"4V", api.ErrMany, 0)
	// Bytes count, not signs: Ω has two.
	wantParse(t, strings.Repeat("0", api.MaxText-3)+"4Ω", "4", "Ω")
	wantFault(t, strings.Repeat("0", api.MaxText-2)+"4Ω", api.ErrMany, 0)
	noughts := strings.Repeat("0", api.MaxText-4)
	wantParse(t, "0."+noughts+"1f", api.Q("1/1"+noughts+"0"+strings.Repeat("0", 15)), "")
}

// P1.2

func TestPrintPrefixes(t *testing.T) {
	for q, want := range map[api.Q]string{
		"1": "1", "999": "999", "1000": "1k", "999999/1000": "999.999", "4700": "4.7k", "999999": "999.999k", "1000000": "1M",
		"1000000000": "1G", "1000000000000": "1T", "999999999999": "999.999999999G", "1000000000000000": "1000T", "12345678000000000000": "12345678T",
		"1/10": "100m", "1/1000": "1m", "999/1000000": "999\u00b5", "1/1000000": "1\u00b5", "1/1000000000": "1n", "1/1000000000000": "1p",
		"1/1000000000000000": "1f", "3/2000000000000000": "1.5f", "1/10000000000000000": "0.1f", "1/8000000000000000000": "0.000125f",
		"47/10000000": "4.7\u00b5", "-1/8": "-125m", "-4700": "-4.7k", "-1/10000000000000000": "-0.1f", "3/2": "1.5",
	} {
		for _, unit := range allUnits {
			wantPrint(t, q, unit, want+unit)
		}
	}
}

func TestPrintWhatCountsAsZero(t *testing.T) {
	for _, q := range []api.Q{"0", "-0", "0/7", "-0/3", "1/0", "1/00", "", "-", "x", "1.5", "+1", "1/-2", "1/2/3", " 1"} {
		wantPrint(t, q, "V", "0V")
	}
}

func TestPrintNotInLowestTerms(t *testing.T) {
	for q, want := range map[api.Q]string{"1/010": "100mV", "08/5": "1.6V", "-007": "-7V", "3/3": "1V", "6/4": "1.5V", "21/3": "7V", "3000/3": "1kV"} {
		wantPrint(t, q, "V", want)
	}
}

func TestPrintDecimalsThatDoNotEnd(t *testing.T) {
	for _, q := range []api.Q{"1/3", "-1/3", "22/7", "1/15", "1000/3", "1/3000000000000000000", "10000000000000000/3", "7/12345678901234567890123"} {
		wantErrno(t, q, "V", api.ErrForm)
	}
}

func TestPrintUnits(t *testing.T) {
	for _, unit := range []string{"X", "v", "\u2126", " ", "V ", "VV", "kV", "k", "m", "hz", "HZ", "z", "ohm", "\xce", "\x00", "Ωs"} {
		wantErrno(t, "1", unit, api.ErrKind)
		wantErrno(t, "1/3", unit, api.ErrKind)
	}
}

func TestPrintLongDecimals(t *testing.T) {
	noughts := func(n int) string { return strings.Repeat("0", n) }
	// The decimal alone counts, not its sign, prefix and unit.
	wantPrint(t, api.Q("1"+noughts(api.MaxText+11)), "V", "1"+noughts(api.MaxText-1)+"TV")
	wantPrint(t, api.Q("-1"+noughts(api.MaxText+11)), "V", "-1"+noughts(api.MaxText-1)+"TV")
	wantErrno(t, api.Q("1"+noughts(api.MaxText+12)), "V", api.ErrForm)
	wantPrint(t, api.Q("1/1"+noughts(15+api.MaxText-2)), "V", "0."+noughts(api.MaxText-3)+"1fV")
	wantErrno(t, api.Q("1/1"+noughts(15+api.MaxText-1)), "V", api.ErrForm)
	wantPrint(t, api.Q("1"+noughts(api.MaxText-3)+"1/1"+noughts(api.MaxText-2)), "", "1."+noughts(api.MaxText-3)+"1")
	wantErrno(t, api.Q("1"+noughts(api.MaxText-2)+"1/1"+noughts(api.MaxText-1)), "", api.ErrForm)
	wantErrno(t, api.Q(strings.Repeat("9", 20000)), "", api.ErrForm)
	wantPrint(t, api.Q(noughts(20000)+"6/"+noughts(20000)+"4"), "", "1.5")
}

// Both ways.

// someEndingFraction is a fraction whose decimal ends.
func someEndingFraction(r *rand.Rand) *big.Rat {
	up := new(big.Int).Rand(r, new(big.Int).Exp(big.NewInt(10), big.NewInt(int64(r.Intn(40))), nil))
	down := new(big.Int).Exp(big.NewInt(2), big.NewInt(int64(r.Intn(60))), nil)
	down.Mul(down, new(big.Int).Exp(big.NewInt(5), big.NewInt(int64(r.Intn(30))), nil))
	if r.Intn(2) == 0 {
		up.Neg(up)
	}
	return new(big.Rat).SetFrac(up, down)
}

func TestParseOfWhatIsPrinted(t *testing.T) {
	r := rand.New(rand.NewSource(3))
	for range 3000 {
		q := api.Q(someEndingFraction(r).RatString())
		unit := allUnits[r.Intn(len(allUnits))]
		text, e := Print(q, unit)
		if e != api.OK {
			t.Fatalf("Print(%q, %q): %d", q, unit, e)
		}
		wantParse(t, text, q, unit)
		again, e := Print(q, unit)
		if again != text || e != api.OK {
			t.Fatalf("Print(%q, %q) is %q, then %q", q, unit, text, again)
		}
	}
}

// Far above T and far below f, nearly as long as Parse takes it.
func TestParseOfLongPrinted(t *testing.T) {
	noughts := strings.Repeat("0", api.MaxText-20)
	for _, q := range []api.Q{api.Q("-1" + noughts + "7"), api.Q("-7/1" + noughts)} {
		text, e := Print(q, "Ω")
		if e != api.OK || len(text) > api.MaxText {
			t.Fatalf("Print: %d, %d bytes", e, len(text))
		}
		wantParse(t, text, q, "Ω")
	}
}

// Right texts with one byte more, whichever, at each place.
func TestParseWithOneByteMore(t *testing.T) {
	for _, text := range []string{"-4.7kΩ", "10µF", "2MHz", "5"} {
		for at := range len(text) + 1 {
			for b := range 256 {
				bent := text[:at] + string([]byte{byte(b)}) + text[at:]
				q, unit, f := Parse(bent)
				if f.Code == api.OK && !wellFormed(bent) {
					t.Errorf("Parse(%q): %q, %q", bent, q, unit)
				}
				if f.Code == api.OK && f.At != 0 || f.Code != api.OK && (q != "" || unit != "") {
					t.Errorf("Parse(%q): %q, %q, %v", bent, q, unit, f)
				}
			}
		}
	}
}

// wellFormed says by taking off ends, other than Parse does, whether a text is a quantity.
func wellFormed(text string) bool {
	if !utf8.ValidString(text) {
		return false
	}
	for _, unit := range []string{"Ω", "\u2126", "F", "Hz", "H", "V", "A", "S", "W", "s"} {
		if strings.HasSuffix(text, unit) {
			text = strings.TrimSuffix(text, unit)
			break
		}
	}
	for _, prefix := range []string{"f", "p", "n", "u", "\u00b5", "\u03bc", "m", "k", "M", "G", "T"} {
		if strings.HasSuffix(text, prefix) {
			text = strings.TrimSuffix(text, prefix)
			break
		}
	}
	ahead, behind, pointed := strings.Cut(strings.TrimPrefix(text, "-"), ".")
	isNumber := func(s string) bool { return s != "" && strings.Trim(s, "0123456789") == "" }
	return isNumber(ahead) && (!pointed || isNumber(behind))
}
