package bench

import (
	"slices"
	"strconv"
	"strings"

	"voltaic/api"
	"voltaic/net"
)

// What is told where nothing is reckoned.
const (
	tooLong  = "too long"
	laidDown = "ok"
	notRight = "bad"
	noNet    = "none"
)

// Lines that lay a net down.
const (
	netBegins = "net"
	netEnds   = "end"
)

// desk has the net that is laid down, if any.
type desk struct {
	laid bool
	net  api.Net
}

// Session answers a text line by line.
func Session(text string) string {
	if len(text) > api.MaxText {
		return tooLong + "\n"
	}
	var d desk
	// Many sessions ask each verb about once: the table says how much room that takes, and nothing of what is told.
	verbs.once.Do(fillVerbs)
	told := make([]string, 0, len(verbs.list))
	for rest := linesOf(text); len(rest) > 0; {
		var line string
		line, rest = d.next(rest)
		told = append(told, line+"\n")
	}
	return strings.Join(told, "")
}

// linesOf has no line of an empty text, but one, which is empty, of a line feed.
func linesOf(text string) []string {
	if text == "" {
		return nil
	}
	return strings.Split(strings.TrimSuffix(text, "\n"), "\n")
}

// next answers the first of some lines, with those that belong to it, and hands back the others.
func (d *desk) next(lines []string) (told string, rest []string) {
	first, rest := lines[0], lines[1:]
	if first != netBegins {
		return d.answer(strings.Split(first, " ")), rest
	}
	end := slices.Index(rest, netEnds)
	if end < 0 {
		return d.lay(rest), nil
	}
	return d.lay(rest[:end]), rest[end+1:]
}

// lay lays a net down; a wrong one leaves what lies there.
func (d *desk) lay(lines []string) string {
	n, f := net.Parse(strings.Join(lines, "\n"))
	if f.Code != api.OK {
		return tellFault(f)
	}
	d.laid, d.net = true, n
	return laidDown
}

// answer answers the words of a line, of which there is at least one, perhaps an empty one.
func (d *desk) answer(words []string) string {
	v, known := verbOf(words[0])
	if !known {
		return notRight
	}
	if v.needsNet && !d.laid {
		return noNet
	}
	q, wanted := v.take(words[1:])
	if !wanted {
		return notRight
	}
	q.net = d.net
	told, f := v.tell(q)
	if f.Code != api.OK {
		return tellFault(f)
	}
	return told
}

func tellFault(f api.Fault) string {
	return "error " + strconv.Itoa(int(f.Code)) + " " + strconv.Itoa(f.At)
}
