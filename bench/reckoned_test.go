package bench

import (
	"fmt"
	"math/rand"
	"regexp"
	"slices"
	"strings"
	"testing"

	"voltaic/api"
	"voltaic/diode"
	"voltaic/direct"
	"voltaic/net"
	"voltaic/stable"
	"voltaic/synth"
	"voltaic/transfer"
	"voltaic/units"
)

// Lines that are right, by the words of the chapter, and those that need a net, whatever else they are.
var (
	plainLine  = regexp.MustCompile(`^(volts|power|diodes)$`)
	nodesLine  = regexp.MustCompile(`^(seen|function|ladder) ([0-9]) ([0-9])$`)
	sidesLine  = regexp.MustCompile(`^sides( [^ ]*)*$`)
	needsALine = regexp.MustCompile(`^(volts|power|seen|diodes|function|ladder)( |$)`)
)

// reckoned is a session that goes through a text once, line by line.
func reckoned(text string) string {
	if len(text) > 4000 {
		return "too long\n"
	}
	var out strings.Builder
	var down *api.Net
	var collected []string
	collecting := false
	lay := func() {
		n, f := net.Parse(strings.Join(collected, "\n"))
		collecting, collected = false, nil
		if f.Code != api.OK {
			fmt.Fprintf(&out, "error %d %d\n", f.Code, f.At)
			return
		}
		down = &n
		fmt.Fprintln(&out, "ok")
	}
	for text != "" {
		var line string
		line, text, _ = strings.Cut(text, "\n")
		switch {
		case collecting && line == "end":
			lay()
		case collecting:
			collected = append(collected, line)
		case line == "net":
			collecting = true
		default:
			fmt.Fprintln(&out, reckonedLine(down, line))
		}
	}
	if collecting {
		lay()
	}
	return out.String()
}

func reckonedLine(down *api.Net, line string) string {
	if down == nil && needsALine.MatchString(line) {
		return "none"
	}
	var told string
	var f api.Fault
	if m := nodesLine.FindStringSubmatch(line); m != nil {
		told, f = reckonedBetween(*down, m[1], int(m[2][0]-'0'), int(m[3][0]-'0'))
	} else if plainLine.MatchString(line) {
		told, f = reckonedPlain(*down, line)
	} else if sidesLine.MatchString(line) {
		var l []api.Q
		for _, word := range strings.Split(line, " ")[1:] {
			l = append(l, api.Q(word))
		}
		var left, middle, right int
		left, middle, right, f.Code = stable.Count(l)
		told = fmt.Sprint(left, middle, right)
	} else {
		return "bad"
	}
	if f.Code != api.OK {
		return fmt.Sprintf("error %d %d", f.Code, f.At)
	}
	return told
}

func reckonedPlain(n api.Net, line string) (told string, f api.Fault) {
	var l []api.Q
	unit := "V"
	switch line {
	case "volts":
		var a api.Answer
		a, f = direct.Solve(n)
		l = a.Volts
	case "power":
		l, f = direct.Power(n)
		unit = "W"
	case "diodes":
		var on []bool
		_, on, f = diode.Solve(n)
		var states []string
		for i := range on {
			if n.Parts[i].Kind == api.D {
				states = append(states, map[bool]string{true: "on", false: "off"}[on[i]])
			}
		}
		return strings.Join(states, " "), f
	}
	for _, q := range l {
		told += " " + written(q, unit)
	}
	return strings.TrimPrefix(told, " "), f
}

func reckonedBetween(n api.Net, verb string, a, b int) (string, api.Fault) {
	if verb == "seen" {
		volts, ohms, f := direct.Seen(n, a, b)
		return fmt.Sprint(written(volts, "V"), " ", written(ohms, "Ω")), f
	}
	r, f := transfer.Between(n, a, b)
	if f.Code != api.OK {
		return "", f
	}
	commas := func(l []api.Q) string { return strings.ReplaceAll(strings.Trim(fmt.Sprint(l), "[]"), " ", ",") }
	if verb == "ladder" {
		l, e := synth.Ladder(r, api.L)
		return commas(l), api.Fault{Code: e}
	}
	if len(r.Up) == 0 {
		return "0 " + commas(r.Down), f
	}
	return commas(r.Up) + " " + commas(r.Down), f
}

func written(q api.Q, unit string) string {
	if text, e := units.Print(q, unit); e == api.OK {
		return text
	}
	return string(q) + unit
}

// someOf draws one.
func someOf(r *rand.Rand, l ...string) string { return l[r.Intn(len(l))] }

// somePart is a line of a net; of most nets nothing is wrong with it.
func somePart(r *rand.Rand, nodes int, kinds string) string {
	letter := string(kinds[r.Intn(len(kinds))])
	node := func() string { return fmt.Sprint(r.Intn(nodes)) }
	if r.Intn(60) == 0 {
		node = func() string { return someOf(r, "7", "9", "10", "x", "") }
	}
	out := letter + " " + node() + " " + node()
	if letter == "E" || letter == "G" {
		out += " " + node() + " " + node()
	}
	if letter == "D" {
		return out
	}
	unit := map[string]string{"R": "Ω", "L": "H", "C": "F", "V": "V", "I": "A", "G": "S"}[letter]
	if r.Intn(60) == 0 {
		unit = someOf(r, "", "s", "V", "kk")
	}
	value := someOf(r, "1", "2", "3", "7", "1.5", "0.25", "2k", "3m", "1M", "10")
	if strings.Contains("VIEG", letter) && r.Intn(3) == 0 {
		value = someOf(r, "-1", "0", "-2.5")
	}
	return out + " " + value + unit
}

// someLines lay a net down, or try to.
func someLines(r *rand.Rand) []string {
	kinds := someOf(r, "RRRV", "RRRI", "RRVI", "RRVDD", "RRVDD", "RRIDD", "LLCC", "LC", "RLC", "RLCVI", "RRVIEG", "RLCVIEGD", "RX")
	nodes := 1 + r.Intn(4)
	out := []string{"net", fmt.Sprintf("nodes %d", nodes)}
	if r.Intn(30) == 0 {
		out[1] = someOf(r, "nodes 0", "nodes 9", "nodes", "", "nodes 10")
	}
	for range r.Intn(7) {
		out = append(out, somePart(r, nodes, kinds))
	}
	if r.Intn(10) > 0 {
		out = append(out, "end")
	}
	return out
}

// someLine is a line that isn't of a net.
func someLine(r *rand.Rand) string {
	verb := someOf(r, "volts", "power", "seen", "diodes", "function", "ladder", "sides", "what", "", "end")
	var behind []string
	switch verb {
	case "seen", "function", "ladder":
		behind = []string{fmt.Sprint(r.Intn(4)), fmt.Sprint(r.Intn(4))}
	case "sides":
		for range r.Intn(8) {
			behind = append(behind, someOf(r, "1", "2", "0", "-1", "3/2", "x", "1/0", "10"))
		}
	}
	if r.Intn(10) == 0 {
		behind = append(behind, someOf(r, "1", "x", "", "10"))
	}
	return strings.Join(append([]string{verb}, behind...), " ")
}

// spoilt has one byte more, less, or another one.
func spoilt(r *rand.Rand, line string) string {
	at := r.Intn(len(line) + 1)
	ahead, behind := line[:at], line[at:]
	if r.Intn(2) == 0 && behind != "" {
		behind = behind[1:]
	}
	return ahead + someOf(r, "", " ", " ", "x", "0", "\r", "\t", "\xce", "\x00") + behind
}

func someSession(r *rand.Rand) string {
	var lines []string
	for range r.Intn(12) {
		if r.Intn(3) == 0 {
			lines = append(lines, someLines(r)...)
		} else {
			lines = append(lines, someLine(r))
		}
	}
	for i := range lines {
		if r.Intn(40) == 0 {
			lines[i] = spoilt(r, lines[i])
		}
	}
	text := strings.Join(lines, "\n")
	if r.Intn(2) == 0 {
		text += "\n"
	}
	return text
}

func TestSessionAgainstAnotherReckoner(t *testing.T) {
	r := rand.New(rand.NewSource(4))
	told := map[string]int{}
	for range 10000 {
		text := someSession(r)
		got, want := Session(text), reckoned(text)
		if got != want {
			t.Fatalf("Session(%q): %q, want %q", text, got, want)
		}
		if again := Session(text); again != got {
			t.Fatalf("Session(%q): %q, then %q", text, got, again)
		}
		for _, line := range strings.Split(got, "\n") {
			first, _, _ := strings.Cut(line, " ")
			if first == "error" {
				first = line[:min(len(line), 8)]
			}
			told[first]++
		}
	}
	for _, first := range []string{"ok", "bad", "none", "on", "off", "0V", "error 1 ", "error 2 ", "error 3 ", "error 4 ", "error 6 ", "error 7 ", "error 8 ", "error 9 ", "error 10"} {
		if told[first] < 20 {
			t.Errorf("%q was told %d times only", first, told[first])
		}
	}
}

func TestSessionOfAnyBytes(t *testing.T) {
	r := rand.New(rand.NewSource(5))
	const bytes = "net\nend\nvolts power seen diodes function ladder sides 0123 RLCVIEGD\u03a9\xff\x00\n\n  "
	for range 3000 {
		text := make([]byte, r.Intn(200))
		for i := range text {
			text[i] = bytes[r.Intn(len(bytes))]
		}
		if got, want := Session(string(text)), reckoned(string(text)); got != want {
			t.Fatalf("Session(%q): %q, want %q", text, got, want)
		}
	}
}

// What is told of lines ahead hangs on no line behind them, and what is told behind a net on none ahead of it.
func TestSessionsBehindEachOther(t *testing.T) {
	r := rand.New(rand.NewSource(6))
	for range 1000 {
		first := laid(someOf(r, dividerNet, thirdsNet, ladderNet, diodesNet, freeNet, noneNet), someLine(r), someLine(r))
		second := laid(someOf(r, dividerNet, thirdsNet, ladderNet, diodesNet, freeNet, noneNet), someLine(r), someLine(r))
		wantTold(t, first+second, Session(first)+Session(second))
	}
}

// What is told of volts and watts is read back by chapter 1 as what chapter 3 has.
func TestSessionTellsWhatChapter3Has(t *testing.T) {
	r := rand.New(rand.NewSource(7))
	read, fractions := 0, 0
	for range 3000 {
		lines := someLines(r)
		n, f := net.Parse(strings.Join(slices.DeleteFunc(lines, func(l string) bool { return l == "net" || l == "end" }), "\n"))
		if f.Code != api.OK {
			continue
		}
		a, f := direct.Solve(n)
		if f.Code != api.OK {
			continue
		}
		watts, _ := direct.Power(n)
		text, _ := net.Print(n)
		told := strings.Split(Session(laid(strings.TrimSuffix(text, "\n"), "volts", "power")), "\n")
		if len(told) != 4 {
			t.Fatalf("%v: %q", n, told)
		}
		for i, l := range [][]api.Q{a.Volts, watts} {
			unit := []string{"V", "W"}[i]
			told := strings.Fields(told[1+i])
			if len(told) != len(l) {
				t.Fatalf("%v: %q, want %v", n, told, l)
			}
			for k, word := range told {
				q, u, f := units.Parse(word)
				if f.Code != api.OK {
					q, u = api.Q(strings.TrimSuffix(word, unit)), unit
					fractions++
				}
				if q != l[k] || u != unit {
					t.Fatalf("%v: %q, want %v", n, told, l)
				}
				read++
			}
		}
	}
	if read < 500 || fractions < 50 {
		t.Errorf("too few: %d, of them fractions: %d", read, fractions)
	}
}
