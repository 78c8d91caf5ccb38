package bench

import (
	"math/rand"
	"reflect"
	"slices"
	"strings"
	"sync"
	"testing"

	"voltaic/api"
	"voltaic/direct"
)

func part(kind, a, b int, value api.Q) api.Part {
	return api.Part{Kind: kind, A: a, B: b, Value: value}
}

func netOf(nodes int, parts ...api.Part) api.Net { return api.Net{Nodes: nodes, Parts: parts} }

// divider has a battery of so many volts, 2 ohms, then 3 ohms against the ground.
func divider(volts api.Q) api.Net {
	return netOf(3, part(api.V, 1, 0, volts), part(api.R, 1, 2, "2"), part(api.R, 2, 0, "3"))
}

func words(text string) []api.Q {
	var out []api.Q
	for _, w := range strings.Fields(text) {
		out = append(out, api.Q(w))
	}
	return out
}

// known is a net of which it is known what is told.
type known struct {
	n           api.Net
	volts, amps string
	fault       api.Fault
}

func faulty(code api.Errno, at int, n api.Net) known {
	return known{n: n, fault: api.Fault{Code: code, At: at}}
}

// knowns are nets that have answers, and one at least for each fault of chapter 3's Solve.
func knowns() []known {
	ohm := part(api.R, 1, 0, "1")
	return []known{
		{n: divider("10"), volts: "0 10 6", amps: "-2 2 2"},
		faulty(api.ErrFree, 0, netOf(2)),
		{n: netOf(1), volts: "0"},
		faulty(api.ErrNone, 0, netOf(2, part(api.V, 1, 0, "1"), part(api.V, 1, 0, "2"))),
		{n: netOf(2, part(api.I, 0, 1, "1/3"), ohm), volts: "0 1/3", amps: "1/3 1/3"},
		faulty(api.ErrMany, 0, api.Net{}),
		faulty(api.ErrMany, 0, netOf(api.MaxNodes+1)),
		faulty(api.ErrMany, 0, netOf(2, slices.Repeat([]api.Part{ohm}, api.MaxParts+1)...)),
		{n: netOf(2, slices.Repeat([]api.Part{ohm}, api.MaxParts)...), volts: "0 0", amps: strings.Repeat("0 ", api.MaxParts)},
		faulty(api.ErrKind, 1, netOf(2, ohm, part(9, 1, 0, "1"))),
		faulty(api.ErrKind, 2, netOf(2, ohm, ohm, part(api.D, 1, 0, ""))),
		faulty(api.ErrNode, 0, netOf(2, part(api.R, 1, 2, "1"))),
		faulty(api.ErrValue, 1, netOf(2, ohm, part(api.R, 1, 0, "0"))),
		faulty(api.ErrForm, 0, netOf(2, api.Part{Kind: api.R, A: 1, C: 1, Value: "1"})),
		{n: divider("-1/7"), volts: "0 -1/7 -3/35", amps: "1/35 -1/35 -1/35"},
	}
}

// wantKnown measures nets of which it is known what is told.
func wantKnown(t *testing.T, l []known) {
	t.Helper()
	var nets []api.Net
	for _, k := range l {
		nets = append(nets, k.n)
	}
	answers, faults := Measure(nets)
	if len(answers) != len(l) || len(faults) != len(l) {
		t.Fatalf("%d nets: %d answers, %d faults", len(l), len(answers), len(faults))
	}
	for i, k := range l {
		a := answers[i]
		if !slices.Equal(a.Volts, words(k.volts)) || !slices.Equal(a.Amps, words(k.amps)) || faults[i] != k.fault {
			t.Errorf("net %d of %d, %v: %v, %v, want %s, %s, %v", i, len(l), k.n, a, faults[i], k.volts, k.amps, k.fault)
		}
	}
}

// P15.1

func TestMeasureNoNet(t *testing.T) {
	for _, l := range [][]api.Net{nil, {}, make([]api.Net, 0, 30)} {
		if answers, faults := Measure(l); len(answers) != 0 || len(faults) != 0 {
			t.Errorf("no net: %v, %v", answers, faults)
		}
	}
}

func TestMeasureOneNet(t *testing.T) {
	for _, k := range knowns() {
		wantKnown(t, []known{k})
	}
}

func TestMeasureAsManyAsThereMayBe(t *testing.T) {
	all := knowns()
	for count := 2; count <= api.MaxNets; count++ {
		wantKnown(t, slices.Repeat(all, 2)[:count])
	}
	for _, k := range all {
		wantKnown(t, slices.Repeat([]known{k}, api.MaxNets))
	}
}

func TestMeasureTooMany(t *testing.T) {
	want := []api.Fault{{Code: api.ErrMany}}
	for _, count := range []int{api.MaxNets + 1, api.MaxNets + 2, 100, 5000} {
		for _, k := range knowns() {
			answers, faults := Measure(slices.Repeat([]api.Net{k.n}, count))
			if len(answers) != 0 || !slices.Equal(faults, want) {
				t.Fatalf("%d nets: %v, %v", count, answers, faults)
			}
		}
	}
	// Nets that lie behind the list don't count.
	l := slices.Repeat([]api.Net{divider("10")}, api.MaxNets+1)
	if answers, faults := Measure(l[:api.MaxNets]); len(answers) != api.MaxNets || slices.Contains(faults, want[0]) {
		t.Errorf("as many as may be, one behind them: %v, %v", answers, faults)
	}
}

func TestMeasureInAnyOrder(t *testing.T) {
	all := knowns()
	for from := range all {
		turned := slices.Concat(all[from:], all[:from])
		wantKnown(t, turned)
		slices.Reverse(turned)
		wantKnown(t, turned)
	}
	r := rand.New(rand.NewSource(1))
	for range 100 {
		l := slices.Repeat(all, 2)
		r.Shuffle(len(l), func(i, k int) { l[i], l[k] = l[k], l[i] })
		wantKnown(t, l[:1+r.Intn(api.MaxNets)])
	}
}

// heavy takes long to solve.
func heavy(r *rand.Rand) api.Net {
	n := netOf(api.MaxNodes, part(api.V, 1, 0, "1"))
	for i := 1; i < api.MaxParts; i++ {
		var value strings.Builder
		value.WriteByte('1')
		for range 60 {
			value.WriteByte(byte('0' + r.Intn(10)))
		}
		n.Parts = append(n.Parts, part(api.R, i%n.Nodes, (i+1+i/n.Nodes)%n.Nodes, api.Q(value.String())))
	}
	return n
}

// The short ones are done long ahead of the long ones, wherever these stand.
func TestMeasureLongAndShort(t *testing.T) {
	r := rand.New(rand.NewSource(2))
	for long := range api.MaxNets {
		var l []api.Net
		for i := range api.MaxNets {
			if i == long || i == (long+7)%api.MaxNets {
				l = append(l, heavy(r))
			} else {
				l = append(l, divider(api.Q(string(rune('1'+i%9)))))
			}
		}
		wantEachSolved(t, l)
	}
}

// wantEachSolved asks for what chapter 3 tells of each net, several times.
func wantEachSolved(t *testing.T, l []api.Net) {
	t.Helper()
	for range 3 {
		answers, faults := Measure(l)
		if len(answers) != len(l) || len(faults) != len(l) {
			t.Fatalf("%d nets: %d answers, %d faults", len(l), len(answers), len(faults))
		}
		for i, n := range l {
			a, f := direct.Solve(n)
			if !sameAnswer(answers[i], a) || faults[i] != f {
				t.Fatalf("net %d of %d, %v: %v, %v, want %v, %v", i, len(l), n, answers[i], faults[i], a, f)
			}
		}
	}
}

func sameAnswer(a, b api.Answer) bool {
	return slices.Equal(a.Volts, b.Volts) && slices.Equal(a.Amps, b.Amps)
}

// someNet may have anything wrong with it.
func someNet(r *rand.Rand) api.Net {
	values := []api.Q{"1", "2", "-1", "3/2", "5", "0", "1/3", "", "x", "1/0"}
	n := api.Net{Nodes: r.Intn(5)}
	for range r.Intn(8) {
		p := part(1+r.Intn(7), r.Intn(n.Nodes+1), r.Intn(n.Nodes+1), values[r.Intn(4+r.Intn(7))])
		if p.Kind == api.E || p.Kind == api.G {
			p.C, p.D = r.Intn(n.Nodes+1), r.Intn(n.Nodes+1)
		}
		if r.Intn(3) > 0 && n.Nodes > 0 {
			p.A, p.B, p.C, p.D = p.A%n.Nodes, p.B%n.Nodes, p.C%n.Nodes, p.D%n.Nodes
		}
		n.Parts = append(n.Parts, p)
	}
	return n
}

func TestMeasureIsChapter3(t *testing.T) {
	r := rand.New(rand.NewSource(3))
	answered, refused := 0, map[api.Errno]int{}
	for range 300 {
		var l []api.Net
		for range r.Intn(api.MaxNets + 1) {
			l = append(l, someNet(r))
		}
		wantEachSolved(t, l)
		for _, n := range l {
			if _, f := direct.Solve(n); f.Code == api.OK {
				answered++
			} else {
				refused[f.Code]++
			}
		}
	}
	if answered < 100 || len(refused) < 5 {
		t.Errorf("too few of a kind: %d answered, refused: %v", answered, refused)
	}
}

// roomy has its parts with room behind them, in which other parts lie.
func roomy(n api.Net) api.Net {
	parts := append(slices.Clone(n.Parts), part(api.R, 5, 6, "7"), part(api.L, 7, 6, "5"))
	return api.Net{Nodes: n.Nodes, Parts: parts[:len(n.Parts)]}
}

func TestMeasureOnlyReads(t *testing.T) {
	var l, whole []api.Net
	for _, k := range knowns() {
		n := roomy(k.n)
		l = append(l, n)
		whole = append(whole, netOf(n.Nodes, slices.Clone(n.Parts[:cap(n.Parts)])...))
	}
	handed := slices.Clone(l)
	Measure(l)
	for i := range l {
		if l[i].Nodes != handed[i].Nodes || len(l[i].Parts) != len(handed[i].Parts) || &l[i].Parts[:1][0] != &handed[i].Parts[:1][0] {
			t.Errorf("net %d is another one: %v", i, l[i])
		}
		if !slices.Equal(l[i].Parts[:cap(l[i].Parts)], whole[i].Parts) {
			t.Errorf("net %d has changed: %v, was %v", i, l[i], whole[i])
		}
	}
}

// spoil writes over all that a list has room for.
func spoil(l []api.Q) {
	l = l[:cap(l)]
	for i := range l {
		l[i] = "spoilt"
	}
}

func TestMeasureIsNewMemory(t *testing.T) {
	n := roomy(divider("10"))
	l := slices.Repeat([]api.Net{n}, 6)
	answers, faults := Measure(l)
	want, _ := direct.Solve(divider("10"))
	for i := range answers {
		for k := i; k < len(answers); k++ {
			if !sameAnswer(answers[k], want) || faults[k] != (api.Fault{}) {
				t.Fatalf("net %d, after %d were spoilt: %v, %v", k, i, answers[k], faults[k])
			}
		}
		spoil(answers[i].Volts)
		if !slices.Equal(answers[i].Amps, want.Amps) {
			t.Fatalf("volts and amps share memory: %v", answers[i])
		}
		spoil(answers[i].Amps)
		faults[i] = api.Fault{Code: api.ErrText, At: 1}
	}
	if !reflect.DeepEqual(n, roomy(divider("10"))) || !slices.Equal(n.Parts[:cap(n.Parts)][3:5], []api.Part{part(api.R, 5, 6, "7"), part(api.L, 7, 6, "5")}) {
		t.Errorf("the net has changed: %v", n)
	}
	wantEachSolved(t, l)
}

func TestEachNetIsTakenOnce(t *testing.T) {
	for count := range api.MaxNets + 1 {
		results := solveAll(slices.Repeat([]api.Net{divider("1")}, count))
		taken := make([]int, count)
		for m := range results { // which ends, since nothing more is sent
			taken[m.place]++
		}
		if slices.ContainsFunc(taken, func(times int) bool { return times != 1 }) {
			t.Errorf("of %d nets, each was taken so often: %v", count, taken)
		}
	}
}

func TestAllCallsAtATime(t *testing.T) {
	const text = "net\nnodes 3\nV 1 0 10V\nR 1 2 2Ω\nR 2 0 3Ω\nend\nvolts\nsides 1 0 1\n"
	var l []api.Net
	for _, k := range knowns() {
		l = append(l, k.n)
	}
	answers, faults := Measure(l)
	var asking sync.WaitGroup
	for range 16 {
		asking.Add(1)
		go func() {
			defer asking.Done()
			for range 10 {
				if told := Session(text); told != "ok\n0V 10V 6V\n0 2 0\n" {
					t.Errorf("told: %q", told)
				}
				if a, f := Measure(l); !slices.EqualFunc(a, answers, sameAnswer) || !slices.Equal(f, faults) {
					t.Errorf("measured: %v, %v", a, f)
				}
			}
		}()
	}
	asking.Wait()
}
