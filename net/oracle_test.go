package net

import (
	"regexp"
	"slices"
	"strconv"
	"strings"
	"testing"

	"carrefour/api"
	"carrefour/lex"
)

// What the package answers is held against the chapter's own words: the grammar below is the chapter's, word by word, and is run as a machine of states, which shares nothing with how the package reads. What was read is spelt again, and must be the tokens of the text.

const grammar = `
    net     = "cycle" NUM "to" NUM "by" NUM ";" "peak" NUM "/" NUM ";" node* [artery]
    node    = "node" NAME "{" head* walk* phase* group* foe* "}"
    head    = "head" NAME "volume" NUM "flow" NUM "use" NUM "/" NUM "speed" NUM "grade" ["-"] NUM "width" NUM "length" NUM "green" NUM ";"
    walk    = "walk" NAME "with" NAME "long" NUM "pace" NUM "least" NUM ";"
    phase   = "phase" NAME ":" NAME ("," NAME)* ";"
    group   = "group" "{" ring+ "}"
    ring    = "ring" ["free"] NAME ("," NAME)* ";"
    foe     = "foe" NAME NAME ";"
    artery  = "artery" "{" stop* "weights" NUM NUM ";" "}"
    stop    = "stop" NAME "out" NAME "in" NAME "ahead" NUM "back" NUM ";"
`

// reserved are the words as chapter 4 lists them.
const reserved = "cycle to by peak node head volume flow use speed grade width length green walk with long pace least phase group ring free foe artery stop out in ahead back weights plan offset sum split yellow red flash best yes no spent"

const sure = "cycle 600 to 1200 by 10; peak 92/100; "

// machine has states; each goes to others, by what a token is or by nothing.
type machine struct {
	by     []map[string]int
	silent [][]int
	last   int
	rules  map[string]string
	parts  []string // of the rule that is being laid
}

var part = regexp.MustCompile(`"[^"]+"|[A-Za-z]+|[][()*+]`)

func newMachine() *machine {
	m := &machine{rules: map[string]string{}}
	for _, line := range strings.Split(strings.TrimSpace(grammar), "\n") {
		name, body, _ := strings.Cut(line, " = ")
		m.rules[strings.TrimSpace(name)] = body
	}
	m.last = m.rule("net", m.state())
	return m
}

func (m *machine) state() int {
	m.by = append(m.by, map[string]int{})
	m.silent = append(m.silent, nil)
	return len(m.by) - 1
}

func (m *machine) join(from, to int) { m.silent[from] = append(m.silent[from], to) }

// rule lays a rule behind a state, and tells the state at its end.
func (m *machine) rule(name string, from int) int {
	outer := m.parts
	m.parts = part.FindAllString(m.rules[name], -1)
	to := m.row(from)
	m.parts = outer
	return to
}

func (m *machine) row(from int) int {
	for len(m.parts) > 0 && m.parts[0] != "]" && m.parts[0] != ")" {
		begin := m.state()
		m.join(from, begin)
		end := m.one(begin)
		if len(m.parts) > 0 && (m.parts[0] == "*" || m.parts[0] == "+") {
			m.join(end, begin)
			if m.parts[0] == "*" {
				m.join(begin, end)
			}
			m.parts = m.parts[1:]
		}
		from = m.state()
		m.join(end, from)
	}
	return from
}

func (m *machine) one(from int) int {
	p := m.parts[0]
	m.parts = m.parts[1:]
	to := m.state()
	switch {
	case p == "[" || p == "(":
		end := m.row(from)
		m.parts = m.parts[1:]
		m.join(end, to)
		if p == "[" {
			m.join(from, to)
		}
	case p == "NAME" || p == "NUM":
		m.by[from][p] = to
	case p[0] == '"':
		m.by[from][strings.Trim(p, `"`)] = to
	default:
		m.join(m.rule(p, from), to)
	}
	return to
}

// closed tells all states that are reached by nothing.
func (m *machine) closed(states []int) []int {
	for i := 0; i < len(states); i++ {
		for _, s := range m.silent[states[i]] {
			if !slices.Contains(states, s) {
				states = append(states, s)
			}
		}
	}
	return states
}

// goOn tells the states behind a token, none if nothing goes on with it.
func (m *machine) goOn(states []int, what string) []int {
	var next []int
	for _, s := range states {
		if to, ok := m.by[s][what]; ok {
			next = append(next, to)
		}
	}
	return m.closed(next)
}

// allowed tells with what states go on.
func (m *machine) allowed(states []int) []string {
	var l []string
	for _, s := range states {
		for what := range m.by[s] {
			l = append(l, what)
		}
	}
	slices.Sort(l)
	return slices.Compact(l)
}

var isReserved = func() map[string]bool {
	m := map[string]bool{}
	for _, w := range strings.Fields(reserved) {
		m[w] = true
	}
	return m
}()

func whatIs(x api.Token) string {
	switch {
	case x.Kind == api.TNum:
		return "NUM"
	case x.Kind == api.TWord && !isReserved[x.Text]:
		return "NAME"
	}
	return x.Text
}

// counts tells how many there are of each thing, where a text has been read so far.
type counts struct {
	of   map[string]int
	list string // "phase" or "ring" while its list is read
}

var most = map[string]int{
	"node": api.MaxNodes, "stop": api.MaxNodes, "head": api.MaxHeads, "phase": api.MaxHeads, "walk": api.MaxPeds,
	"group": api.MaxGroups, "ring": api.MaxRings, "foe": api.MaxFoes, "in phase": api.MaxHeads, "in ring": api.MaxRow,
}

// tooMany counts a token that the grammar allows.
func (c *counts) tooMany(what string) bool {
	thing := what
	switch what {
	case "NAME":
		if c.list == "" {
			return false
		}
		thing = "in " + c.list
	case "node":
		for _, w := range strings.Fields("head walk phase group foe") {
			c.of[w] = 0
		}
	case "group":
		c.of["ring"] = 0
	case ":":
		c.list, c.of["in phase"] = "phase", 0
	case "ring":
		c.list, c.of["in ring"] = "ring", 0
	case ";":
		c.list = ""
	}
	c.of[thing]++
	m, ok := most[thing]
	return ok && c.of[thing] > m
}

var theMachine = newMachine()

// verdict tells what the chapter says of a text.
func verdict(text string) (api.Errno, int) {
	l, e, place := lex.Tokens([]byte(text))
	if e != api.OK {
		return e, place
	}
	c := &counts{of: map[string]int{}}
	states := theMachine.closed([]int{0})
	for _, x := range l {
		if x.Kind == api.TEnd {
			if slices.Contains(states, theMachine.last) {
				return api.OK, 0
			}
			return api.ErrWant, x.Pos
		}
		states = theMachine.goOn(states, whatIs(x))
		if len(states) == 0 {
			return api.ErrWant, x.Pos
		}
		if c.tooMany(whatIs(x)) {
			return api.ErrLong, x.Pos
		}
	}
	panic("tokens without an end")
}

// speller spells a network again, and tells by its side which token is at which Pos.
type speller struct {
	texts  []string
	places map[int]int
}

func (s *speller) put(texts ...string) { s.texts = append(s.texts, texts...) }

func (s *speller) named(word, name string, pos int) {
	s.put(word)
	s.places[len(s.texts)] = pos
	s.put(name)
}

func (s *speller) list(names []string) {
	for i, x := range names {
		if i > 0 {
			s.put(",")
		}
		s.put(x)
	}
	s.put(";")
}

func num(n int64) string { return strconv.FormatInt(n, 10) }

func (s *speller) node(n api.Node) {
	s.named("node", n.Name, n.Pos)
	s.put("{")
	for _, h := range n.Heads {
		s.named("head", h.Name, h.Pos)
		s.put("volume", num(h.Volume), "flow", num(h.Sat), "use", num(h.Use.Num), "/", num(h.Use.Den), "speed", num(h.Speed), "grade")
		if h.Grade < 0 {
			s.put("-")
			h.Grade = -h.Grade
		}
		s.put(num(h.Grade), "width", num(h.Width), "length", num(h.Length), "green", num(h.Green), ";")
	}
	for _, p := range n.Peds {
		s.named("walk", p.Name, p.Pos)
		s.put("with", p.Phase, "long", num(p.Long), "pace", num(p.Pace), "least", num(p.Walk), ";")
	}
	for _, p := range n.Phases {
		s.named("phase", p.Name, p.Pos)
		s.put(":")
		s.list(p.Heads)
	}
	for _, g := range n.Groups {
		s.put("group", "{")
		for _, w := range g.Rings {
			s.put("ring")
			if w.Free {
				s.put("free")
			}
			s.list(w.Phases)
		}
		s.put("}")
	}
	for _, f := range n.Foes {
		s.named("foe", f.A, f.Pos)
		s.put(f.B, ";")
	}
	s.put("}")
}

func (s *speller) net(n api.Net, artery bool) {
	s.put("cycle", num(n.Min), "to", num(n.Max), "by", num(n.Step), ";", "peak", num(n.Peak.Num), "/", num(n.Peak.Den), ";")
	for _, x := range n.Nodes {
		s.node(x)
	}
	if !artery {
		return
	}
	s.put("artery", "{")
	for _, x := range n.Stops {
		s.named("stop", x.Node, x.Pos)
		s.put("out", x.Out, "in", x.In, "ahead", num(x.Ahead), "back", num(x.Back), ";")
	}
	s.put("weights", num(n.WOut), num(n.WIn), ";", "}")
}

// isOf asks that a network is the one of a text. (Its numbers stand there without noughts ahead, and none is - 0.)
func isOf(t *testing.T, n api.Net, text string) {
	t.Helper()
	l, _, _ := lex.Tokens([]byte(text))
	l = l[:len(l)-1]
	artery := slices.ContainsFunc(l, func(x api.Token) bool { return x.Text == "artery" })
	s := &speller{places: map[int]int{}}
	s.net(n, artery)
	if !artery && (len(n.Stops) != 0 || n.WOut != 0 || n.WIn != 0) {
		t.Fatalf("Parse(%q): %v: without an artery there are no stops, and the weights are 0", text, n)
	}
	texts := []string{}
	for _, x := range l {
		texts = append(texts, x.Text)
	}
	if !slices.Equal(texts, s.texts) {
		t.Fatalf("Parse(%q): %v: spelt again\n%q; want\n%q", text, n, s.texts, texts)
	}
	for i, pos := range s.places {
		if l[i].Pos != pos {
			t.Fatalf("Parse(%q): %v: Pos of %s is %d; want %d", text, n, l[i].Text, pos, l[i].Pos)
		}
	}
}
