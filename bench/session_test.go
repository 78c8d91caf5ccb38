package bench

import (
	"slices"
	"strings"
	"testing"

	"voltaic/api"
)

// Nets as texts.
const (
	dividerNet = "nodes 3\nV 1 0 10V\nR 1 2 2Ω\nR 2 0 3Ω"
	thirdsNet  = "nodes 3\nV 1 0 1V\nR 1 2 1Ω\nR 2 0 2Ω"
	ladderNet  = "nodes 3\nL 1 2 1H\nC 2 0 1F"
	diodesNet  = "nodes 4\nV 1 0 6V\nD 1 2\nR 2 0 2Ω\nD 3 1\nR 3 0 1Ω\nD 0 2"
	freeNet    = "nodes 2" // chapter 3 has more than one answer
	noneNet    = "nodes 2\nV 1 0 1V\nV 1 0 2V"
)

// laid lays a net down, ahead of some lines.
func laid(net string, lines ...string) string {
	text := "net\n" + net + "\nend\n"
	for _, line := range lines {
		text += line + "\n"
	}
	return text
}

func wantTold(t *testing.T, text, want string) {
	t.Helper()
	if got := Session(text); got != want {
		t.Errorf("Session(%q): %q, want %q", text, got, want)
	}
}

// wantOf asks a net that can be laid down one line.
func wantOf(t *testing.T, net, line, want string) {
	t.Helper()
	wantTold(t, laid(net, line), "ok\n"+want+"\n")
}

// wantWithout asks one line without a net.
func wantWithout(t *testing.T, line, want string) {
	t.Helper()
	wantTold(t, line+"\n", want+"\n")
	// A net that isn't laid down is none.
	wantTold(t, laid("nodes 2\nR 1 5 1Ω", line), "error 4 1\n"+want+"\n")
}

// ofEach has right lines of the table, those that need a net.
func ofEach() []string {
	return []string{"volts", "power", "seen 1 0", "diodes", "function 1 0", "ladder 1 0"}
}

// P15.2: how long a text may be

// padded makes a text so many bytes long, by a line ahead of it that is told as bad.
func padded(text string, bytes int) string {
	return strings.Repeat("x", bytes-len(text)-1) + "\n" + text
}

func TestSessionAsLongAsMayBe(t *testing.T) {
	text := laid(dividerNet, "volts")
	for _, text := range []string{text, strings.TrimSuffix(text, "\n")} {
		for _, bytes := range []int{len(text) + 1, api.MaxText - 1, api.MaxText} {
			wantTold(t, padded(text, bytes), "bad\nok\n0V 10V 6V\n")
		}
		for _, bytes := range []int{api.MaxText + 1, api.MaxText + 2, 100000} {
			wantTold(t, padded(text, bytes), "too long\n")
		}
	}
	for _, filling := range []string{"x", " ", "\x00", "\xff", "0"} {
		wantTold(t, strings.Repeat(filling, api.MaxText), "bad\n")
		wantTold(t, strings.Repeat(filling, api.MaxText+1), "too long\n")
	}
}

func TestSessionCountsBytes(t *testing.T) {
	wantTold(t, strings.Repeat("Ω", api.MaxText/2), "bad\n")
	wantTold(t, strings.Repeat("Ω", api.MaxText/2)+"x", "too long\n")
	wantTold(t, strings.Repeat("Ω", api.MaxText/2+1), "too long\n")
	// The last line feed counts, too.
	wantTold(t, strings.Repeat("x", api.MaxText-1)+"\n", "bad\n")
	wantTold(t, strings.Repeat("x", api.MaxText)+"\n", "too long\n")
	wantTold(t, strings.Repeat("\n", api.MaxText), strings.Repeat("bad\n", api.MaxText))
	wantTold(t, strings.Repeat("\n", api.MaxText+1), "too long\n")
}

// Lines

func TestSessionLineFeedBehindTheLastLine(t *testing.T) {
	for text, want := range map[string]string{
		"what": "bad\n", "volts": "none\n", "sides 1 1": "1 0 0\n", "net": "error 1 0\n", "end": "bad\n",
		"sides 1 1\nvolts":                     "1 0 0\nnone\n",
		"net\nnodes 1":                         "ok\n",
		"net\nnodes 1\nend":                    "ok\n",
		"net\nnodes 1\nend\nvolts":             "ok\n0V\n",
		"net\n" + dividerNet + "\nend\nvolts":  "ok\n0V 10V 6V\n",
		"net\n" + dividerNet + "\nend\nseen 2": "ok\nbad\n",
	} {
		wantTold(t, text, want)
		wantTold(t, text+"\n", want)
	}
	// One more is a line more, though an empty one.
	wantTold(t, "sides 1 1\n\n", "1 0 0\nbad\n")
	wantTold(t, "sides 1 1\n\n\n", "1 0 0\nbad\nbad\n")
	wantTold(t, laid("nodes 1")+"\n", "ok\nbad\n")
}

func TestSessionNoLine(t *testing.T) { wantTold(t, "", "") }

func TestSessionEmptyLines(t *testing.T) {
	wantTold(t, "\n", "bad\n")
	wantTold(t, "\n\n\n", "bad\nbad\nbad\n")
	wantTold(t, "\nvolts\n\nsides 1 1\n", "bad\nnone\nbad\n1 0 0\n")
	wantTold(t, "\n"+laid(dividerNet, "", "volts", ""), "bad\nok\nbad\n0V 10V 6V\nbad\n")
}

func TestSessionOtherEndsOfLines(t *testing.T) {
	wantTold(t, "sides 1 1\rsides 1 1\n", "1 0 2\n") // the word in the middle is no number
	wantTold(t, "volts\r\n", "bad\n")
	wantTold(t, "net\r\nnodes 1\r\nend\r\n", "bad\nbad\nbad\n")
	wantTold(t, "volts\vvolts\fvolts\u2028volts\x00\n", "bad\n")
}

// net

func TestSessionNet(t *testing.T) {
	for _, net := range []string{
		"nodes 1", "nodes 8", dividerNet, thirdsNet, ladderNet, diodesNet, freeNet, noneNet,
		"nodes 3\nR 1 0 1kΩ\nL 1 0 1µH\nC 1 0 1.5F\nV 1 0 -1V\nI 1 0 0A\nE 1 0 2 0 3\nG 1 0 2 0 3S\nD 1 0",
		"nodes 2" + strings.Repeat("\nR 1 0 1Ω", api.MaxParts),
		"nodes 1\n", // Parse doesn't count a line feed at the end
	} {
		wantTold(t, "net\n"+net+"\nend\n", "ok\n")
		wantTold(t, "net\n"+net+"\n", "ok\n")
		wantTold(t, "net\n"+net, "ok\n")
	}
}

// wrongNets has one at least of each fault that chapter 2's Parse has for a text that isn't too long.
func wrongNets() map[string]string {
	return map[string]string{
		"":                                   "error 1 0",
		"\n":                                 "error 1 0",
		"node 1":                             "error 1 0",
		"nodes":                              "error 1 0",
		"nodes ":                             "error 1 0",
		"nodes x":                            "error 1 0",
		"nodes 10":                           "error 1 0",
		" nodes 1":                           "error 1 0",
		"nodes  1":                           "error 1 0",
		"nodes 1 ":                           "error 1 0",
		"R 1 0 1Ω":                           "error 1 0",
		"\nnodes 1":                          "error 1 0",
		"net\nnodes 1":                       "error 1 0",
		"nodes 0":                            "error 2 1",
		"nodes 9":                            "error 2 1",
		"nodes 2" + repeated(api.MaxParts+1): "error 2 1",
		"nodes 2\nX 1 0 1Ω":                  "error 3 1",
		"nodes 2\nr 1 0 1Ω":                  "error 3 1",
		"nodes 2\n R 1 0 1Ω":                 "error 3 1",
		"nodes 2\nR 1 0 1Ω\n\nR 1 0 1Ω":      "error 3 2",
		"nodes 2\nR 1 0 1Ω\nnet":             "error 3 2",
		"nodes 2\nR 1 0 1Ω\nvolts":           "error 3 2",
		"nodes 2\nR 1 0 1Ω\nend ":            "error 3 2",
		"nodes 2\nR 1 0 1Ω\n end":            "error 3 2",
		"nodes 2\nR 1 0 1Ω\nend end":         "error 3 2",
		"nodes 2\nR 1 0 1Ω\nEND":             "error 3 2",
		"nodes 2\nR":                         "error 10 1",
		"nodes 2\nR 1 0":                     "error 10 1",
		"nodes 2\nR 1 0 1Ω 1Ω":               "error 10 1",
		"nodes 2\nR 1 0 1Ω ":                 "error 10 1",
		"nodes 2\nD 1 0\nE 1 0 1":            "error 10 2",
		"nodes 2\nD 1 0\nD 1 0 1Ω":           "error 10 2",
		"nodes 2\nR x 0 1Ω":                  "error 4 1",
		"nodes 2\nR 1 00 1Ω":                 "error 4 1",
		"nodes 2\nR 1 2 1Ω":                  "error 4 1",
		"nodes 2\nD 1 0\nG 1 0 1 2 1S":       "error 4 2",
		"nodes 2\nR 1 0 1":                   "error 1 1",
		"nodes 2\nR 1 0 1V":                  "error 1 1",
		"nodes 2\nR 1 0 Ω":                   "error 1 1",
		"nodes 2\nD 1 0\nR 1 0 1/2Ω":         "error 1 2",
		"nodes 2\nR 1 0 0Ω":                  "error 5 1",
		"nodes 2\nD 1 0\nR 1 0 1Ω\nL 0 1 -1mH\nC 1 0 0F": "error 5 3",
		// All lines are read ahead of what Check says.
		"nodes 9\nR 1 0 0Ω\nX": "error 3 2",
		"nodes 9\nR 1 0 0Ω":    "error 2 1",
	}
}

func repeated(parts int) string { return strings.Repeat("\nR 1 0 1Ω", parts) }

func TestSessionWrongNets(t *testing.T) {
	for net, want := range wrongNets() {
		wantTold(t, "net\n"+net+"\nend\n", want+"\n")
		wantTold(t, "net\n"+net+"\nend", want+"\n")
		// What comes behind it goes on, with no net.
		wantTold(t, laid(net, "volts", "sides 1 1"), want+"\nnone\n1 0 0\n")
		// And what was laid down ahead stays.
		wantTold(t, laid(dividerNet)+laid(net, "volts"), "ok\n"+want+"\n0V 10V 6V\n")
	}
}

func TestSessionEachFaultOfParse(t *testing.T) {
	var missing []string
	for _, code := range []string{"1 0", "1 1", "2 1", "3 1", "4 1", "5 1", "10 1"} {
		found := false
		for _, want := range wrongNets() {
			found = found || want == "error "+code
		}
		if !found {
			missing = append(missing, code)
		}
	}
	if missing != nil {
		t.Errorf("no wrong net is told as %v", missing)
	}
}

func TestSessionNetWithoutEnd(t *testing.T) {
	// All other lines belong to it.
	wantTold(t, "net\nnodes 1\nvolts\nsides 1 1\n", "error 3 1\n")
	wantTold(t, "net\n"+dividerNet+"\nnet\nnodes 1", "error 3 4\n")
	wantTold(t, laid(dividerNet, "volts", "net", "nodes 2", "R 1 0 1"), "ok\n0V 10V 6V\nerror 1 1\n")
	wantTold(t, "net\nnodes 1\n\n", "ok\n") // one line feed at its end doesn't count
	wantTold(t, "net\nnodes 1\n\n\n", "error 3 1\n")
}

func TestSessionNetOfNothing(t *testing.T) {
	for _, text := range []string{"net", "net\n", "net\nend", "net\nend\n", "net\n\n", "net\n\nend"} {
		wantTold(t, text, "error 1 0\n")
	}
	wantTold(t, "net\nend\nnet\nend\nvolts\n", "error 1 0\nerror 1 0\nnone\n")
}

func TestSessionEndAlone(t *testing.T) {
	wantTold(t, "end\n", "bad\n")
	wantTold(t, "net\nnodes 1\nend\nend\nend\nvolts\n", "ok\nbad\nbad\n0V\n")
}

func TestSessionNetNotAlone(t *testing.T) {
	for _, line := range []string{"net ", " net", "net net", "net end", "net 1", "Net", "NET", "nets", "ne", "net\t"} {
		wantTold(t, line+"\n", "bad\n")
		wantTold(t, line+"\nvolts\nend\n", "bad\nnone\nbad\n")
		wantTold(t, laid(dividerNet, line, "volts"), "ok\nbad\n0V 10V 6V\n")
	}
}

func TestSessionOneNetBehindAnother(t *testing.T) {
	wantTold(t, "net\n"+dividerNet+"\nend\nnet\n"+thirdsNet+"\nend\nvolts\n", "ok\nok\n0V 1V 2/3V\n")
	wantTold(t, laid(dividerNet, "volts", "net", thirdsNet, "end", "volts", "net", "nodes 1", "end", "volts", "seen 1 0"),
		"ok\n0V 10V 6V\nok\n0V 1V 2/3V\nok\n0V\nerror 4 0\n")
	// One of which chapter 3 has no answer is a right one.
	wantTold(t, laid(dividerNet, "net", noneNet, "end", "volts", "net", dividerNet, "end", "volts"), "ok\nok\nerror 7 0\nok\n0V 10V 6V\n")
}

func TestSessionWrongNetBehindARightOne(t *testing.T) {
	wantTold(t, laid(dividerNet, "net", "nodes 2", "R 1 5 1Ω", "end", "volts", "net", "end", "power", "net", "nodes 0"),
		"ok\nerror 4 1\n0V 10V 6V\nerror 1 0\n-20W 8W 12W\nerror 2 1\n")
}

// Each session begins with nothing.
func TestSessionKeepsNothing(t *testing.T) {
	for range 3 {
		wantTold(t, laid(dividerNet, "volts"), "ok\n0V 10V 6V\n")
		wantTold(t, "volts\n", "none\n")
	}
}

// The table

func TestSessionVolts(t *testing.T) {
	wantOf(t, dividerNet, "volts", "0V 10V 6V")
	wantOf(t, thirdsNet, "volts", "0V 1V 2/3V")
	wantOf(t, "nodes 1", "volts", "0V")
	wantOf(t, ladderNet+"\nR 1 0 1Ω", "volts", "0V 0V 0V")
	wantOf(t, "nodes 5\nV 1 0 1500V\nV 2 0 -0.00025V\nV 3 0 1TV\nV 4 0 0.1fV", "volts", "0V 1.5kV -250µV 1TV 0.1fV")
	wantOf(t, "nodes 3\nV 1 0 -1V\nR 1 2 1000Ω\nR 2 0 500Ω", "volts", "0V -1V -1/3V")
	wantOf(t, "nodes 2\nE 1 0 1 0 2", "volts", "0V 0V")
	wantOf(t, freeNet, "volts", "error 8 0")
	wantOf(t, noneNet, "volts", "error 7 0")
	wantOf(t, diodesNet, "volts", "error 3 1")
	wantWithout(t, "volts", "none")
}

func TestSessionPower(t *testing.T) {
	wantOf(t, dividerNet, "power", "-20W 8W 12W")
	wantOf(t, thirdsNet, "power", "-1/3W 1/9W 2/9W")
	wantOf(t, "nodes 1", "power", "") // no part, but a line
	wantOf(t, "nodes 2\nI 0 1 10mA\nR 1 0 2kΩ", "power", "-200mW 200mW")
	wantOf(t, "nodes 2\nV 1 0 3kV\nR 1 0 2Ω\nC 1 0 1F", "power", "-4.5MW 4.5MW 0W")
	wantOf(t, freeNet, "power", "error 8 0")
	wantOf(t, noneNet, "power", "error 7 0")
	wantOf(t, diodesNet, "power", "error 3 1")
	wantWithout(t, "power", "none")
}

func TestSessionSeen(t *testing.T) {
	wantOf(t, dividerNet, "seen 2 0", "6V 1.2Ω")
	wantOf(t, dividerNet, "seen 0 2", "-6V 1.2Ω")
	wantOf(t, dividerNet, "seen 1 0", "10V 0Ω")
	wantOf(t, dividerNet, "seen 2 2", "0V 0Ω")
	wantOf(t, thirdsNet, "seen 2 0", "2/3V 2/3Ω")
	wantOf(t, thirdsNet, "seen 1 2", "1/3V 2/3Ω")
	wantOf(t, "nodes 2\nV 1 0 1V\nR 1 0 1Ω", "seen 1 0", "1V 0Ω")
	wantOf(t, "nodes 2\nI 0 1 1mA\nR 1 0 4.7MΩ", "seen 1 0", "4.7kV 4.7MΩ")
	wantOf(t, "nodes 2\nI 0 1 1A\nR 1 0 1Ω\nG 1 0 1 0 -2S", "seen 1 0", "-1V -1Ω")
	wantOf(t, "nodes 8\nR 1 0 1Ω\nR 2 0 1Ω\nR 3 0 1Ω\nR 4 0 1Ω\nR 5 0 1Ω\nR 6 0 1Ω\nR 7 0 1mΩ", "seen 7 6", "0V 1.001Ω")
	wantOf(t, freeNet, "seen 1 0", "error 8 0")
	wantOf(t, noneNet, "seen 1 0", "error 7 0")
	wantOf(t, diodesNet, "seen 1 0", "error 3 1")
	wantWithout(t, "seen 1 0", "none")
}

func TestSessionDiodes(t *testing.T) {
	wantOf(t, diodesNet, "diodes", "on off off")
	wantOf(t, strings.Replace(diodesNet, "6V", "-6V", 1), "diodes", "off on off")
	wantOf(t, "nodes 3\nV 1 0 1V\nD 1 2\nR 2 0 1kΩ", "diodes", "on")
	wantOf(t, "nodes 3\nV 1 0 1V\nD 2 1\nR 2 0 1kΩ", "diodes", "off")
	wantOf(t, dividerNet, "diodes", "") // none, but a line
	wantOf(t, "nodes 1", "diodes", "")
	wantOf(t, freeNet, "diodes", "error 7 0")
	wantOf(t, noneNet, "diodes", "error 7 0")
	wantOf(t, "nodes 2\nV 1 0 1V\nD 1 0", "diodes", "error 7 0")
	wantOf(t, ladderNet, "diodes", "error 3 0")
	wantOf(t, "nodes 2\nR 1 0 1Ω"+strings.Repeat("\nD 0 1", api.MaxDiodes), "diodes", "off off off off off off")
	wantOf(t, "nodes 2\nR 1 0 1Ω"+strings.Repeat("\nD 0 1", api.MaxDiodes+1), "diodes", "error 2 7")
	wantWithout(t, "diodes", "none")
}

func TestSessionFunction(t *testing.T) {
	wantOf(t, dividerNet, "function 2 0", "6/5 1")
	wantOf(t, ladderNet, "function 1 0", "1,0,1 0,1")
	wantOf(t, ladderNet, "function 1 2", "0,1 1")
	wantOf(t, ladderNet, "function 2 0", "1 0,1")
	wantOf(t, "nodes 2\nR 1 0 2Ω\nC 1 0 0.25F", "function 1 0", "4 2,1")
	wantOf(t, "nodes 2\nR 1 0 3Ω\nL 1 0 7H", "function 1 0", "0,3 3/7,1")
	wantOf(t, "nodes 2\nR 1 0 1Ω\nG 1 0 1 0 -2S", "function 1 0", "-1 1")
	// Up has no number.
	wantOf(t, dividerNet, "function 1 0", "0 1")
	wantOf(t, dividerNet, "function 2 2", "0 1")
	wantOf(t, ladderNet, "function 1 1", "0 1")
	wantOf(t, "nodes 1", "function 0 0", "0 1")
	wantOf(t, freeNet, "function 1 0", "error 7 0")
	wantOf(t, noneNet, "function 1 0", "error 8 0")
	wantOf(t, diodesNet, "function 1 0", "error 3 1")
	wantWithout(t, "function 1 0", "none")
}

func TestSessionLadder(t *testing.T) {
	wantOf(t, ladderNet, "ladder 1 0", "1,1")
	wantOf(t, ladderNet, "ladder 1 2", "1")
	wantOf(t, ladderNet, "ladder 2 0", "0,1")
	wantOf(t, "nodes 3\nL 1 2 1.5mH\nC 2 0 250mF\nL 2 0 3H", "ladder 1 0", "3/2000,1/4,3")
	wantOf(t, "nodes 2\nL 1 0 3H\nC 1 0 7F", "ladder 1 0", "0,7,3")
	// What is none: neither a number but 0, nor a fraction that isn't of inductors and capacitors alone.
	wantOf(t, dividerNet, "ladder 2 0", "error 7 0")
	wantOf(t, ladderNet+"\nR 2 0 1Ω", "ladder 1 0", "error 7 0")
	wantOf(t, "nodes 2\nL 1 0 1H\nG 1 0 1 0 1S", "ladder 1 0", "error 7 0")
	// Nothing is no ladder.
	wantOf(t, ladderNet, "ladder 1 1", "error 6 0")
	wantOf(t, dividerNet, "ladder 1 0", "error 6 0")
	wantOf(t, freeNet, "ladder 1 0", "error 7 0")
	wantOf(t, noneNet, "ladder 1 0", "error 8 0")
	wantOf(t, diodesNet, "ladder 1 0", "error 3 1")
	wantWithout(t, "ladder 1 0", "none")
}

// A net's fraction may be of a higher degree than chapter 10 takes: it is told, but has no ladder.
func TestSessionLadderOfTooMany(t *testing.T) {
	long := "nodes 8\nL 1 2 1H\nL 2 3 1H\nL 3 4 1H\nL 4 5 1H\nL 5 6 1H\nL 6 7 1H\nL 7 0 1H" +
		"\nC 1 0 1F\nC 2 0 1F\nC 3 0 1F\nC 4 0 1F\nC 5 0 1F\nC 6 0 1F\nC 7 0 1F"
	told := Session(laid(long, "function 1 0", "ladder 1 0"))
	lines := strings.Split(told, "\n")
	if len(lines) != 4 || strings.Count(lines[1], ",") < api.MaxDegree+1 || lines[2] != "error 2 0" {
		t.Errorf("told: %q", told)
	}
	short := strings.Replace(strings.Replace(long, "\nL 1 2 1H", "\nL 1 2 1pH", 1), "\nC 1 0 1F", "", 1)
	short = strings.Replace(short, "\nL 7 0 1H", "", 1)
	wantOf(t, short, "ladder 1 0", "1/1000000000000,1,1,1,1,1,1,1,1,1,1,1")
}

func TestSessionSides(t *testing.T) {
	for line, want := range map[string]string{
		"sides 1":                         "0 0 0",
		"sides 1 1":                       "1 0 0",
		"sides -1 1":                      "0 0 1",
		"sides 0 1":                       "0 1 0",
		"sides 1 0 1":                     "0 2 0",
		"sides 8 2 1 1":                   "1 0 2",
		"sides 1/2 3/4":                   "1 0 0",
		"sides -1/2 002/4":                "0 0 1",
		"sides 1 1 0 0":                   "1 0 0",
		"sides 0 0 0 0 0 0 0 0 0 0 0 0 1": "0 12 0",
		"sides 1 8 28 56 70 56 28 8 1":    "8 0 0",
		"sides 9 0 0 0 0 0 0 0 0 0 0 0 0": "0 0 0",
		// No number.
		"sides":                           "error 9 0",
		"sides 0":                         "error 9 0",
		"sides 0 0 0 0 0 0 0 0 0 0 0 0 0": "error 9 0",
		// Too many, whatever they are.
		"sides 0 0 0 0 0 0 0 0 0 0 0 0 0 0":   "error 2 0",
		"sides 1 1 1 1 1 1 1 1 1 1 1 1 1 0":   "error 2 0",
		"sides x x x x x x x x x x x x x x x": "error 2 0",
		// Wrong ones count as 0.
		"sides x":              "error 9 0",
		"sides 1/0":            "error 9 0",
		"sides x 1":            "0 1 0",
		"sides 1 - 1":          "0 2 0",
		"sides 1 1.5 1":        "0 2 0",
		"sides 1 +1 1":         "0 2 0",
		"sides 1 1V 1":         "0 2 0",
		"sides 1 5/0 1":        "0 2 0",
		"sides 1 sides 1":      "0 2 0",
		"sides 1\t1 1":         "0 1 0",
		"sides -1 \u0661 1/-1": "0 0 0",
	} {
		wantWithout(t, line, want)
		wantOf(t, dividerNet, line, want)
		wantOf(t, noneNet, line, want)
	}
}

// An empty word is a word, and no number.
func TestSessionSidesWithMoreBlanks(t *testing.T) {
	for line, want := range map[string]string{
		"sides ": "error 9 0", "sides  ": "error 9 0", "sides  1": "0 1 0", "sides 1  1": "0 2 0", "sides 1 1 ": "1 0 0",
		"sides" + strings.Repeat(" ", api.MaxDegree+1): "error 9 0", "sides" + strings.Repeat(" ", api.MaxDegree+2): "error 2 0",
		" sides 1": "bad",
	} {
		wantWithout(t, line, want)
		wantOf(t, dividerNet, line, want)
	}
}

// Numbers as chapter 1's Print writes them, and those that it doesn't

func TestSessionLongNumbers(t *testing.T) {
	noughts := func(n int) string { return strings.Repeat("0", n) }
	square := func(value string) string { return "nodes 2\nV 1 0 " + value + "V\nR 1 0 1Ω" }
	// 10 to the power of 4010 is as long with T as Print writes it; times 100 it isn't.
	wantOf(t, square("1"+noughts(2005)), "power", "-1"+noughts(4010-12)+"TW 1"+noughts(4010-12)+"TW")
	wantOf(t, square("1"+noughts(2006)), "power", "-1"+noughts(4012)+"W 1"+noughts(4012)+"W")
	wantOf(t, square("0."+noughts(2005)+"1"), "power", "-0."+noughts(4012-16)+"1fW 0."+noughts(4012-16)+"1fW")
	wantOf(t, square("0."+noughts(2006)+"1"), "power", "-1/1"+noughts(4014)+"W 1/1"+noughts(4014)+"W")
	wantOf(t, square("0."+noughts(2006)+"1"), "volts", "0V 0."+noughts(2006-15)+"1fV")
	wantOf(t, "nodes 2\nI 0 1 1A\nR 1 0 1"+noughts(3000)+"Ω", "seen 1 0", "1"+noughts(2988)+"TV 1"+noughts(2988)+"TΩ")
}

func TestSessionNumbersThatPrintDoesNotWrite(t *testing.T) {
	wantOf(t, "nodes 3\nV 1 0 10V\nR 1 2 1kΩ\nR 2 0 6kΩ", "volts", "0V 10V 60/7V")
	wantOf(t, "nodes 3\nV 1 0 -7kV\nR 1 2 1mΩ\nR 2 0 2mΩ", "volts", "0V -7kV -14000/3V")
	wantOf(t, "nodes 3\nV 1 0 1pV\nR 1 2 1Ω\nR 2 0 2Ω", "power", "-1/3000000000000000000000000W 1/9000000000000000000000000W 1/4500000000000000000000000W")
	wantOf(t, "nodes 2\nR 1 0 1Ω\nR 1 0 2Ω", "seen 1 0", "0V 2/3Ω")
	wantOf(t, "nodes 2\nR 1 0 1GΩ\nR 1 0 2GΩ", "seen 0 1", "0V 2000000000/3Ω")
}

// Wrong lines

func TestSessionUnknownWords(t *testing.T) {
	for _, line := range []string{
		"", " ", "  ", "what", "volt", "voltss", "Volts", "VOLTS", "power:", "see", "seen1 0", "seen,1,0", "diode", "functions 1 0", "ladder\t1 0", "side 1",
		"end", "ok", "none", "bad", "error", "nodes 2", "R 1 0 1Ω", "0", "1 0", "Ω", "\xff", "\x00", "volts\x00", "volts\u00A0",
		" volts", " power", " seen 1 0", " diodes", " function 1 0", " ladder 1 0", " sides 1", "  volts", "\tvolts", "1 volts", "x volts",
	} {
		wantWithout(t, line, "bad")
		wantOf(t, dividerNet, line, "bad")
		wantOf(t, noneNet, line, "bad")
	}
}

// badWith has lines that are known, but not right.
func badWith() []string {
	return []string{
		// Words in the wrong number.
		"volts 1", "volts 1 0", "volts volts", "power 1", "power 1 0", "diodes 1", "diodes 1 0",
		"seen", "seen 1", "seen 1 0 0", "seen 1 0 0 0", "function", "function 1", "function 1 0 0", "ladder", "ladder 1", "ladder 1 0 0",
		// Blanks behind and doubled.
		"volts ", "volts  ", "power ", "diodes ", "seen ", "seen  ", "seen 1 ", "seen 1 0 ", "seen  1 0", "seen 1  0", "seen  0", "function  1 0", "function 1 0 ", "ladder 1  0", "ladder 1 0 ",
		// Nodes that aren't one digit.
		"seen x 0", "seen 1 x", "seen 10 0", "seen 1 00", "seen -1 0", "seen 1 -0", "seen +1 0", "seen 1.0 0", "seen 1/1 0", "seen \u0661 0", "seen 1 \xff", "seen 1, 0", "seen : 0", "seen 1 /",
		"function a 0", "function 1 b", "function 01 0", "function 1 12", "ladder a 0", "ladder 1 b", "ladder 00 0", "ladder 1 12", "ladder 1\t0 0",
	}
}

func TestSessionWrongLines(t *testing.T) {
	for _, line := range badWith() {
		// None comes ahead of what else is wrong.
		wantWithout(t, line, "none")
		wantOf(t, dividerNet, line, "bad")
		// And bad ahead of what the net has.
		wantOf(t, noneNet, line, "bad")
		wantOf(t, freeNet, line, "bad")
		wantOf(t, diodesNet, line, "bad")
		wantOf(t, "nodes 1", line, "bad")
	}
}

func TestSessionNodesThatAreNotThere(t *testing.T) {
	for _, verb := range []string{"seen", "function", "ladder"} {
		wantOf(t, dividerNet, verb+" 3 0", "error 4 3")
		wantOf(t, dividerNet, verb+" 9 9", "error 4 3")
		wantOf(t, dividerNet, verb+" 0 3", "error 4 4")
		wantOf(t, dividerNet, verb+" 2 9", "error 4 4")
		wantOf(t, "nodes 1", verb+" 1 0", "error 4 0")
		wantOf(t, "nodes 1", verb+" 0 1", "error 4 1")
		// Ahead of there being no answer, but behind what is wrong with the net.
		wantOf(t, noneNet, verb+" 0 2", "error 4 3")
		wantOf(t, freeNet, verb+" 2 0", "error 4 0")
		wantOf(t, diodesNet, verb+" 9 9", "error 3 1")
		wantWithout(t, verb+" 9 9", "none")
	}
}

func TestSessionAllLinesInTurn(t *testing.T) {
	lines := slices.Concat(ofEach(), []string{"sides 1 1", "what", "seen"})
	wantTold(t, strings.Join(lines, "\n"), strings.Repeat("none\n", 6)+"1 0 0\nbad\nnone\n")
	wantTold(t, laid(thirdsNet, lines...), "ok\n0V 1V 2/3V\n-1/3W 1/9W 2/9W\n1V 0Ω\n\n0 1\nerror 6 0\n1 0 0\nbad\nbad\n")
	// What is asked changes nothing in the net.
	wantTold(t, laid(dividerNet, "volts", "power", "seen 2 0", "function 2 0", "volts", "power", "seen 2 0"),
		"ok\n0V 10V 6V\n-20W 8W 12W\n6V 1.2Ω\n6/5 1\n0V 10V 6V\n-20W 8W 12W\n6V 1.2Ω\n")
}

func TestVerbs(t *testing.T) {
	for _, word := range []string{"", "net", "end", "what", "volts ", "Volts"} {
		if v, known := verbOf(word); known {
			t.Errorf("%q is %v", word, v)
		}
	}
	for _, word := range []string{"volts", "power", "seen", "diodes", "function", "ladder", "sides"} {
		v, known := verbOf(word)
		if !known || v.word != word || v.needsNet != (word != "sides") {
			t.Errorf("%q: %v, %v", word, v, known)
		}
	}
}

// The table of verbs

// withTable puts other verbs into the table, and the right ones back.
func withTable(list []verb, then func()) {
	verbs.once.Do(fillVerbs) // so that no session fills it any more
	right := verbs.list
	defer func() { verbs.list = right }()
	verbs.list = list
	then()
}

// wrongVerbs have each verb's word, but nothing else that is right.
func wrongVerbs() []verb {
	list := allVerbs()
	for i := range list {
		list[i].needsNet = !list[i].needsNet
		list[i].take = func([]string) (question, bool) { return question{}, true }
		list[i].tell = func(question) (string, api.Fault) { return "wrong", api.Fault{} }
	}
	return append(list, verb{word: "what", take: list[0].take, tell: list[0].tell})
}

func TestSessionHangsOnNoTable(t *testing.T) {
	lines := slices.Concat(ofEach(), []string{"sides 1 0 1", "what", "", "seen", "volts 1", "sides"})
	var texts, told []string
	for _, net := range []string{dividerNet, thirdsNet, ladderNet, diodesNet, freeNet, noneNet, "nodes 9"} {
		text := strings.Join(lines, "\n") + "\n" + laid(net, lines...)
		texts, told = append(texts, text), append(told, Session(text))
	}
	wrong := wrongVerbs()
	for _, list := range [][]verb{nil, {}, make([]verb, 30), wrong, wrong[:1], slices.Repeat(wrong, 50)} {
		withTable(list, func() {
			for i, text := range texts {
				wantTold(t, text, told[i])
			}
			wantTold(t, "", "")
			wantTold(t, strings.Repeat("x", api.MaxText+1), "too long\n")
		})
	}
}

func TestTableOfVerbsIsFilledOnce(t *testing.T) {
	Session(laid(dividerNet, ofEach()...))
	first := verbs.list
	Session(laid(dividerNet, ofEach()...))
	if len(verbs.list) != len(first) || &verbs.list[0] != &first[0] {
		t.Errorf("the table was filled again")
	}
	var words []string
	for _, v := range verbs.list {
		words = append(words, v.word)
		wantSameVerb(t, v)
	}
	if want := []string{"volts", "power", "seen", "diodes", "function", "ladder", "sides"}; !slices.Equal(words, want) {
		t.Errorf("the table has %q, want %q", words, want)
	}
}

// wantSameVerb asks for what the verb with this word tells in a session.
func wantSameVerb(t *testing.T, v verb) {
	t.Helper()
	known, is := verbOf(v.word)
	if !is || known.needsNet != v.needsNet {
		t.Errorf("%q: %v, in the table %v", v.word, known, v)
	}
	for _, words := range [][]string{nil, {"1"}, {"2", "0"}, {"1", "0", "1"}} {
		q, wanted := v.take(words)
		want, wantWanted := known.take(words)
		q.net, want.net = divider("10"), divider("10")
		told, f := v.tell(q)
		wantText, wantFault := known.tell(want)
		if wanted != wantWanted || told != wantText || f != wantFault {
			t.Errorf("%q of %q: %v, %q, %v, in a session %v, %q, %v", v.word, words, wanted, told, f, wantWanted, wantText, wantFault)
		}
	}
}
