package net

import (
	"math/rand"
	"reflect"
	"strings"
	"testing"

	"voltaic/api"
)

func wantText(t *testing.T, n api.Net, want string) {
	t.Helper()
	text, f := Print(n)
	if text != want || f != (api.Fault{}) {
		t.Errorf("Print(%.200v): %.200q, %v, want %.200q", n, text, f, want)
	}
}

func wantNoText(t *testing.T, n api.Net, code api.Errno, at int) {
	t.Helper()
	text, f := Print(n)
	if text != "" || f != (api.Fault{Code: code, At: at}) {
		t.Errorf("Print(%.200v): %.200q, %v, want the fault %d at %d and nothing else", n, text, f, code, at)
	}
}

func wantNet(t *testing.T, text string, want api.Net) {
	t.Helper()
	n, f := Parse(text)
	same := n.Nodes == want.Nodes && (len(n.Parts)+len(want.Parts) == 0 || reflect.DeepEqual(n.Parts, want.Parts))
	if !same || f != (api.Fault{}) {
		t.Errorf("Parse(%.200q): %.200v, %v, want %.200v", text, n, f, want)
	}
}

func wantNoNet(t *testing.T, text string, code api.Errno, at int) {
	t.Helper()
	n, f := Parse(text)
	if n.Nodes != 0 || n.Parts != nil || f != (api.Fault{Code: code, At: at}) {
		t.Errorf("Parse(%.200q): %.200v, %v, want the fault %d at %d and nothing else", text, n, f, code, at)
	}
}

// P2.4

func everyKind() (api.Net, string) {
	n := netOf(8,
		part(api.R, 0, 1, "4700"), part(api.L, 1, 2, "1/1000"), part(api.C, 2, 3, "47/10000000"),
		part(api.V, 3, 4, "-10"), part(api.I, 4, 5, "0"), led(api.E, 5, 6, 7, 0, "-1/2"),
		led(api.G, 6, 7, 0, 1, "1/50"), part(api.D, 7, 7, ""))
	return n, "nodes 8\nR 0 1 4.7kΩ\nL 1 2 1mH\nC 2 3 4.7µF\nV 3 4 -10V\nI 4 5 0A\nE 5 6 7 0 -500m\nG 6 7 0 1 20mS\nD 7 7\n"
}

func TestPrint(t *testing.T) {
	n, text := everyKind()
	wantText(t, n, text)
	wantText(t, netOf(1), "nodes 1\n")
	wantText(t, netOf(2, part(api.V, 1, 0, "no number"), part(api.R, 1, 0, "06/4")), "nodes 2\nV 1 0 0V\nR 1 0 1.5Ω\n")
}

func TestPrintWhatCannotBeTold(t *testing.T) {
	wantNoText(t, netOf(2, part(api.R, 0, 1, "1/3")), api.ErrForm, 0)
	wantNoText(t, netOf(2, good(api.R), good(api.D), part(api.V, 0, 1, "-1/7"), part(api.R, 0, 1, "1/3")), api.ErrForm, 2)
	wantNoText(t, netOf(2, part(api.R, 0, 1, "1/3"), part(api.R, 0, 1, "0")), api.ErrValue, 1)
	tooLong := api.Q(strings.Repeat("1", api.MaxText+13))
	wantNoText(t, netOf(2, good(api.R), part(api.R, 0, 1, tooLong)), api.ErrForm, 1)
	// Each value can be told, but not all of them: that is told behind a value that can't be.
	long := part(api.V, 0, 1, api.Q(strings.Repeat("1", api.MaxText/2)))
	wantNoText(t, netOf(2, long, long), api.ErrMany, 0)
	wantNoText(t, netOf(2, long, long, part(api.V, 0, 1, "1/3")), api.ErrForm, 2)
}

// ofLength is a net whose text has so many bytes, and that text.
func ofLength(bytes int) (api.Net, string) {
	const start, end = "nodes 2\nV 1 0 0.", "fV\n"
	digits := strings.Repeat("1", bytes-len(start)-len(end))
	n := netOf(2, part(api.V, 1, 0, api.Q(digits+"/1"+strings.Repeat("0", len(digits)+15))))
	return n, start + digits + end
}

func TestLengths(t *testing.T) {
	n, text := ofLength(api.MaxText)
	wantText(t, n, text)
	wantNet(t, text, n)
	wantNet(t, strings.TrimSuffix(text, "\n"), n)
	wantNoNet(t, text+"\n", api.ErrKind, 2) // of two line feeds one doesn't count, and the other one begins an empty line

	n, text = ofLength(api.MaxText + 1)
	wantNoText(t, n, api.ErrMany, 0)
	wantNet(t, text, n)
	wantNet(t, strings.TrimSuffix(text, "\n"), n)

	n, text = ofLength(api.MaxText + 2)
	wantNoText(t, n, api.ErrMany, 0)
	wantNoNet(t, text, api.ErrMany, 0)
	wantNoNet(t, strings.TrimSuffix(text, "\n"), api.ErrMany, 0)
	wantNoNet(t, strings.Repeat("x", api.MaxText+1), api.ErrMany, 0)
	wantNoNet(t, strings.Repeat("x", api.MaxText), api.ErrText, 0)
	wantNoNet(t, strings.Repeat("\n", api.MaxText+2), api.ErrMany, 0)
}

func TestParse(t *testing.T) {
	n, text := everyKind()
	wantNet(t, text, n)
	wantNet(t, strings.TrimSuffix(text, "\n"), n)
	wantNet(t, "nodes 1", netOf(1))
	wantNet(t, "nodes 8\n", netOf(8))
	// Other writings of chapter 1, each with the unit that it must have.
	wantNet(t, "nodes 2\nR 0 1 04700.0\u2126\nC 1 0 10uF\nE 0 1 1 0 5m\nG 0 1 1 0 -0S", netOf(2,
		part(api.R, 0, 1, "4700"), part(api.C, 1, 0, "1/100000"), led(api.E, 0, 1, 1, 0, "1/200"), led(api.G, 0, 1, 1, 0, "0")))
}

func TestParseFirstLine(t *testing.T) {
	for _, text := range []string{
		"", "\n", "nodes", "nodes ", "nodes  2", "nodes 2 ", " nodes 2", "nodes 02", "nodes 10", "nodes -1", "nodes x", "nodes ٢",
		"Nodes 2", "node 2", "nodes\t2", "nodes2", "nodes 2\r\n", "2", "\nnodes 2", "R 0 1 1Ω", "nodes 2 R 0 1 1Ω",
	} {
		wantNoNet(t, text, api.ErrText, 0)
	}
}

func TestParseFaults(t *testing.T) {
	for line, code := range map[string]api.Errno{
		"": api.ErrKind, " ": api.ErrKind, "X 1 0 1": api.ErrKind, "r 1 0 1Ω": api.ErrKind, " R 1 0 1Ω": api.ErrKind,
		"RR 1 0 1Ω": api.ErrKind, "nodes 2": api.ErrKind, "R\t1 0 1Ω": api.ErrKind, "X": api.ErrKind, "D\r": api.ErrKind,
		"R": api.ErrCount, "R 1 0": api.ErrCount, "R 1 0 1Ω ": api.ErrCount, "R  1 0 1Ω": api.ErrCount, "R 1 0 1 Ω": api.ErrCount,
		"D 1": api.ErrCount, "D 1 0 1": api.ErrCount, "D 1 0 ": api.ErrCount, "E 1 0 1": api.ErrCount, "E 1 0 1 0": api.ErrCount,
		"E 1 0 1 0 1 1": api.ErrCount, "G 1 0 1S": api.ErrCount, "V x y": api.ErrCount,
		"R x 0 1Ω": api.ErrNode, "R 0 -1 1Ω": api.ErrNode, "R 00 1 1Ω": api.ErrNode, "R  0 1Ω": api.ErrNode, "D 1 0\r": api.ErrNode,
		"R 1 1Ω 0": api.ErrNode, "E 0 1 x 0 1": api.ErrNode, "E 0 1 0 x 1": api.ErrNode, "R x 0 x": api.ErrNode, "D 1 x": api.ErrNode,
		"R 1 0 ": api.ErrText, "R 1 0 1": api.ErrText, "R 1 0 1V": api.ErrText, "R 1 0 x": api.ErrText, "R 1 0 1/2Ω": api.ErrText,
		"R 1 0 1Ω\r": api.ErrText, "L 1 0 1F": api.ErrText, "C 1 0 1H": api.ErrText, "V 1 0 1A": api.ErrText, "I 1 0 1V": api.ErrText,
		"E 1 0 1 0 1V": api.ErrText, "G 1 0 1 0 1": api.ErrText, "V 1 0 -V": api.ErrText, "V 9 9 +1V": api.ErrText,
	} {
		wantNoNet(t, "nodes 2\n"+line+"\n", code, 1)
		wantNoNet(t, "nodes 2\nD 0 1\nV 0 1 1V\n"+line+"\nX", code, 3)
	}
}

// What Check says comes last, and tells the line.
func TestParseChecks(t *testing.T) {
	for text, f := range map[string]api.Fault{
		"nodes 0": {Code: api.ErrMany, At: 1}, "nodes 9": {Code: api.ErrMany, At: 1},
		"nodes 2\n" + strings.Repeat("D 0 1\n", api.MaxParts+1):           {Code: api.ErrMany, At: 1},
		"nodes 0\n" + strings.Repeat("D 0 1\n", api.MaxParts+1) + "X":     {Code: api.ErrKind, At: api.MaxParts + 2},
		"nodes 2\nR 1 0 1Ω\nR 1 2 1Ω":                                     {Code: api.ErrNode, At: 2},
		"nodes 2\nR 1 0 0Ω":                                               {Code: api.ErrValue, At: 1},
		"nodes 2\nR 1 2 1Ω\nC 1 0 -1F\n":                                  {Code: api.ErrNode, At: 1},
		"nodes 2\nR 1 2 1Ω\nC 1 0 1V\n":                                   {Code: api.ErrText, At: 2},
		"nodes 3\nG 0 1 2 3 1S":                                           {Code: api.ErrNode, At: 1},
		"nodes 2\nR 1 0 1Ω\n\nR 1 0 1Ω":                                   {Code: api.ErrKind, At: 2},
		"nodes 2\n" + strings.Repeat("D 0 1\n", api.MaxParts-1) + "D 0 2": {Code: api.ErrNode, At: api.MaxParts},
	} {
		wantNoNet(t, text, f.Code, f.At)
	}
	wantNet(t, "nodes 2\n"+strings.Repeat("R 0 1 1Ω\n", api.MaxParts), netOf(2, resistors(api.MaxParts)...))
}

func TestParseOfWhatIsPrinted(t *testing.T) {
	r := rand.New(rand.NewSource(5))
	for range 1000 {
		n := someNet(r)
		text, f := Print(n)
		if f != (api.Fault{}) {
			t.Fatalf("Print(%v): %v", n, f)
		}
		wantNet(t, text, n)
		wantNet(t, strings.TrimSuffix(text, "\n"), n)
	}
}

func FuzzParse(f *testing.F) {
	_, text := everyKind()
	f.Add(text)
	f.Add("nodes 2\nR 1 0 1Ω\n\xff")
	f.Fuzz(func(t *testing.T, text string) {
		n, fault := Parse(text)
		if fault.Code != api.OK {
			wantNoNet(t, text, fault.Code, fault.At)
			return
		}
		if told, fault := Print(n); fault == (api.Fault{}) {
			wantNet(t, told, n)
		}
	})
}
