package plan

import "carrefour/api"

// The grammar stands here once, for what reads and for what prints: so what is printed is read again.

// hand is led along a plan by the grammar: a reader fills in what it points to, a printer puts it.
type hand interface {
	// each is led to what stands one behind the other: a string is a word or a sign of the grammar; pointers are to a name, a number, and whether it is yes.
	each(things ...any)
	// more tells whether a row of so many things goes on with one at a place, which that word begins; no row has fewer things than least, or more than most.
	more(word string, at, many, least, most int) bool
}

// rows is led to things one behind the other.
func rows[T any](h hand, word string, least, most int, l *[]T, thing func(hand, *T)) {
	for at := 0; h.more(word, at, len(*l), least, most); at++ {
		if at == len(*l) {
			// A reader alone goes on here: a printer's row is whole, and is not written to.
			var blank T
			*l = append(*l, blank)
		}
		thing(h, &(*l)[at])
	}
}

func plan(h hand, p *api.Plan) {
	h.each("plan", "cycle", &p.Cycle, ";")
	rows(h, "node", 0, api.MaxNodes, &p.Timings, timing)
	h.each("out", &p.Out.Start, &p.Out.Width, ";")
	h.each("in", &p.In.Start, &p.In.Width, ";")
	h.each("best", &p.Best, ";")
	h.each("spent", &p.Spent, ";")
}

func timing(h hand, t *api.Timing) {
	h.each("node", &t.Node, "offset", &t.Offset, "sum", &t.Sum.Num, "/", &t.Sum.Den, "{")
	rows(h, "group", 0, api.MaxGroups, &t.Spans, group)
	h.each("}")
}

func group(h hand, s *api.Span) {
	h.each("group", "{")
	rows(h, "ring", 1, api.MaxRings, &s.Rings, ring)
	h.each("}")
}

func ring(h hand, l *[]api.Slot) {
	h.each("ring", "{")
	rows(h, "phase", 1, api.MaxRow, l, phase)
	h.each("}")
}

func phase(h hand, s *api.Slot) {
	h.each("phase", &s.Phase, "split", &s.Split, "yellow", &s.Yellow, "red", &s.Red)
	rows(h, "walk", 0, api.MaxPeds, &s.Walks, walk)
	h.each(";")
}

func walk(h hand, w *api.Walk) {
	h.each("walk", &w.Ped, &w.Walk, "flash", &w.Flash)
}

// answer tells the word for whether a plan is best.
func answer(best bool) string {
	if best {
		return "yes"
	}
	return "no"
}
