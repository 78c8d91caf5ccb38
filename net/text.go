package net

import (
	"strconv"
	"strings"

	"voltaic/api"
	"voltaic/units"
)

// head stands ahead of the number of nodes.
const head = "nodes "

// Print tells a net as a text, a line a part.
func Print(n api.Net) (string, api.Fault) {
	if f := Check(n); f.Code != api.OK {
		return "", f
	}
	lines := []string{head + strconv.Itoa(n.Nodes)}
	for i, p := range n.Parts {
		words, code := printPart(p)
		if code != api.OK {
			return "", api.Fault{Code: code, At: i}
		}
		lines = append(lines, strings.Join(words, " "))
	}
	text := strings.Join(lines, "\n") + "\n"
	if len(text) > api.MaxText {
		return "", api.Fault{Code: api.ErrMany}
	}
	return text, api.Fault{}
}

// printPart tells the words of a part that Check lets pass.
func printPart(p api.Part) ([]string, api.Errno) {
	k := kinds[p.Kind]
	words := []string{k.letter, strconv.Itoa(p.A), strconv.Itoa(p.B)}
	if k.led {
		words = append(words, strconv.Itoa(p.C), strconv.Itoa(p.D))
	}
	if !k.valued {
		return words, api.OK
	}
	value, code := units.Print(p.Value, k.unit)
	return append(words, value), code
}

// Parse reads a net from a text as Print tells it.
func Parse(text string) (api.Net, api.Fault) {
	text = strings.TrimSuffix(text, "\n")
	if len(text) > api.MaxText {
		return refuse(api.ErrMany, 0)
	}
	lines := strings.Split(text, "\n")
	count, headed := strings.CutPrefix(lines[0], head)
	nodes, ok := readDigit(count)
	if !headed || !ok {
		return refuse(api.ErrText, 0)
	}
	n := api.Net{Nodes: nodes}
	for i, line := range lines[1:] {
		p, code := readPart(strings.Split(line, " "))
		if code != api.OK {
			return refuse(code, i+1)
		}
		n.Parts = append(n.Parts, p)
	}
	if f := Check(n); f.Code != api.OK {
		return refuse(f.Code, f.At+1)
	}
	return n, api.Fault{}
}

func refuse(code api.Errno, at int) (api.Net, api.Fault) {
	return api.Net{}, api.Fault{Code: code, At: at}
}

func readDigit(word string) (int, bool) {
	if len(word) != 1 || word[0] < '0' || word[0] > '9' {
		return 0, false
	}
	return int(word[0] - '0'), true
}

// readKind answers 0 if the word is no kind's letter.
func readKind(word string) int {
	for i, k := range kinds {
		if i > 0 && k.letter == word {
			return i
		}
	}
	return 0
}

// words is how many a line of a part of this kind has.
func (k kind) words() int {
	count := 3
	if k.led {
		count += 2
	}
	if k.valued {
		count++
	}
	return count
}

// readPart reads the words of a line, of which there is at least one.
func readPart(words []string) (p api.Part, code api.Errno) {
	p.Kind = readKind(words[0])
	if p.Kind == 0 {
		return p, api.ErrKind
	}
	k := kinds[p.Kind]
	if len(words) != k.words() {
		return p, api.ErrCount
	}
	ends := []*int{&p.A, &p.B}
	if k.led {
		ends = append(ends, &p.C, &p.D)
	}
	for i, end := range ends {
		node, ok := readDigit(words[1+i])
		if !ok {
			return p, api.ErrNode
		}
		*end = node
	}
	if !k.valued {
		return p, api.OK
	}
	value, unit, f := units.Parse(words[len(words)-1])
	if f.Code != api.OK || unit != k.unit {
		return p, api.ErrText
	}
	p.Value = value
	return p, api.OK
}
