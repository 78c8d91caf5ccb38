package bench

import (
	"strconv"
	"strings"
	"sync"

	"voltaic/api"
	"voltaic/diode"
	"voltaic/direct"
	"voltaic/stable"
	"voltaic/synth"
	"voltaic/transfer"
	"voltaic/units"
)

// question is what a verb is told of: the net that is laid down, and what the line has for it.
type question struct {
	net     api.Net
	a, b    int // nodes
	numbers []api.Q
}

// verb is how a line begins, and what becomes of it.
type verb struct {
	word     string
	needsNet bool
	take     func(words []string) (q question, wanted bool) // what stands behind the verb
	tell     func(q question) (string, api.Fault)
}

// verbTable is filled the first time that it is asked for.
type verbTable struct {
	once sync.Once
	list []verb
}

// What a session tells hangs on no table that is kept: its verbs come from allVerbs, and this stands beside it.
var verbs verbTable

func fillVerbs() { verbs.list = allVerbs() }

func allVerbs() []verb {
	return []verb{
		{"volts", true, takeNothing, question.volts},
		{"power", true, takeNothing, question.power},
		{"seen", true, takeNodes, question.seen},
		{"diodes", true, takeNothing, question.diodes},
		{"function", true, takeNodes, question.function},
		{"ladder", true, takeNodes, question.ladder},
		{"sides", false, takeNumbers, question.sides},
	}
}

func verbOf(word string) (verb, bool) {
	for _, v := range allVerbs() {
		if v.word == word {
			return v, true
		}
	}
	return verb{}, false
}

func takeNothing(words []string) (question, bool) { return question{}, len(words) == 0 }

func takeNodes(words []string) (question, bool) {
	if len(words) != 2 {
		return question{}, false
	}
	a, aIs := readNode(words[0])
	b, bIs := readNode(words[1])
	return question{a: a, b: b}, aIs && bIs
}

// readNode reads one digit; whether the net has such a node is asked elsewhere.
func readNode(word string) (int, bool) {
	if len(word) != 1 || word[0] < '0' || word[0] > '9' {
		return 0, false
	}
	return int(word[0] - '0'), true
}

// takeNumbers lets all words pass, since a text that is no number counts as 0.
func takeNumbers(words []string) (question, bool) {
	var q question
	for _, word := range words {
		q.numbers = append(q.numbers, api.Q(word))
	}
	return q, true
}

func (q question) volts() (string, api.Fault) {
	a, f := direct.Solve(q.net)
	return quantities(a.Volts, "V"), f
}

func (q question) power() (string, api.Fault) {
	watts, f := direct.Power(q.net)
	return quantities(watts, "W"), f
}

func (q question) seen() (string, api.Fault) {
	volts, ohms, f := direct.Seen(q.net, q.a, q.b)
	return quantity(volts, "V") + " " + quantity(ohms, "\u03A9"), f
}

func (q question) diodes() (string, api.Fault) {
	_, joints, f := diode.Solve(q.net)
	if f.Code != api.OK {
		return "", f
	}
	var states []string
	for i, p := range q.net.Parts {
		switch {
		case p.Kind != api.D:
		case joints[i]:
			states = append(states, "on")
		default:
			states = append(states, "off")
		}
	}
	return strings.Join(states, " "), api.Fault{}
}

func (q question) function() (string, api.Fault) {
	r, f := transfer.Between(q.net, q.a, q.b)
	up := "0"
	if len(r.Up) > 0 {
		up = list(r.Up)
	}
	return up + " " + list(r.Down), f
}

func (q question) ladder() (string, api.Fault) {
	r, f := transfer.Between(q.net, q.a, q.b)
	if f.Code != api.OK {
		return "", f
	}
	values, code := synth.Ladder(r, api.L)
	return list(values), api.Fault{Code: code}
}

func (q question) sides() (string, api.Fault) {
	left, middle, right, code := stable.Count(q.numbers)
	told := strconv.Itoa(left) + " " + strconv.Itoa(middle) + " " + strconv.Itoa(right)
	return told, api.Fault{Code: code}
}

// quantity tells a fraction with its unit as chapter 1 does, and as it is where that has no text for it.
func quantity(q api.Q, unit string) string {
	text, code := units.Print(q, unit)
	if code != api.OK {
		return string(q) + unit
	}
	return text
}

func quantities(l []api.Q, unit string) string {
	var words []string
	for _, q := range l {
		words = append(words, quantity(q, unit))
	}
	return strings.Join(words, " ")
}

func list(l []api.Q) string {
	var words []string
	for _, q := range l {
		words = append(words, string(q))
	}
	return strings.Join(words, ",")
}
