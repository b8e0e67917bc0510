package valid

import (
	"fmt"
	"slices"
	"testing"

	"carrefour/api"
)

// What Check answers is held against the chapter's own words, told here in another way than the package's: all that is wrong with a network is gathered, each with the numbers by which the chapter lists it, and the first one of all is looked for at the end.

type wrong struct {
	order []int // of point, node or stop, paragraph, part, and so on
	error api.Errno
	place int
}

type book struct{ wrongs []wrong }

func (b *book) note(is bool, e api.Errno, place int, order ...int) {
	if is {
		b.wrongs = append(b.wrongs, wrong{order, e, place})
	}
}

// first tells what the chapter has Check answer.
func (b *book) first() (api.Errno, int) {
	if len(b.wrongs) == 0 {
		return api.OK, 0
	}
	w := slices.MinFunc(b.wrongs, func(v, w wrong) int { return slices.Compare(v.order, w.order) })
	return w.error, w.place
}

func (b *book) has(e api.Errno, place int) bool {
	return slices.ContainsFunc(b.wrongs, func(w wrong) bool { return w.error == e && w.place == place })
}

func namesOf[T any](l []T, name func(T) string) []string {
	s := []string{}
	for _, x := range l {
		s = append(s, name(x))
	}
	return s
}

func headsOf(x api.Node) []string { return namesOf(x.Heads, func(h api.Head) string { return h.Name }) }

func phasesOf(x api.Node) []string {
	return namesOf(x.Phases, func(p api.Phase) string { return p.Name })
}

func nodesOf(n api.Net) []string { return namesOf(n.Nodes, func(x api.Node) string { return x.Name }) }

func aheadIn(l []string, i int) bool { return slices.Contains(l[:i], l[i]) }

func out(least, n, most int64) bool { return n < least || n > most }

// allWrong gathers all that is wrong with a network.
func allWrong(n api.Net) *book {
	b := &book{}
	b.note(len(n.Nodes) > 12, api.ErrLong, 0, 1, 1)
	b.note(len(n.Stops) > 12, api.ErrLong, 0, 1, 1)
	b.note(!(1 <= n.Min && n.Min <= n.Max && n.Max <= 6000), api.ErrRange, 0, 1, 2)
	b.note(n.Step < 1, api.ErrRange, 0, 1, 2)
	b.note(out(1, n.Peak.Num, 1e9) || out(1, n.Peak.Den, 1e9), api.ErrRange, 0, 1, 2)
	b.note(out(0, n.WOut, 1e9) || out(0, n.WIn, 1e9), api.ErrRange, 0, 1, 2)
	b.note(len(n.Nodes) == 0, api.ErrEmpty, 0, 1, 3)
	for i, x := range n.Nodes {
		b.note(aheadIn(nodesOf(n), i), api.ErrTwice, x.Pos, 2, i, 1, 1)
		b.counts(i, x)
		b.heads(i, x)
		b.phases(i, x)
		b.walks(i, x)
		b.groups(i, x)
		b.foes(i, x)
	}
	for i, s := range n.Stops {
		b.stop(i, s, n)
	}
	return b
}

func (b *book) counts(i int, x api.Node) {
	for _, c := range [][2]int{{len(x.Heads), 16}, {len(x.Phases), 16}, {len(x.Peds), 8}, {len(x.Groups), 4}, {len(x.Foes), 64}} {
		b.note(c[0] > c[1], api.ErrLong, x.Pos, 2, i, 1, 2)
	}
	for _, c := range []int{len(x.Heads), len(x.Phases), len(x.Groups)} {
		b.note(c == 0, api.ErrEmpty, x.Pos, 2, i, 1, 3)
	}
}

func (b *book) heads(i int, x api.Node) {
	for j, h := range x.Heads {
		b.note(aheadIn(headsOf(x), j), api.ErrTwice, h.Pos, 2, i, 2, j, 1)
		for _, v := range []int64{h.Sat, h.Use.Num, h.Use.Den} {
			b.note(out(1, v, 1e9), api.ErrRange, h.Pos, 2, i, 2, j, 2)
		}
		b.note(out(0, h.Volume, 1e9), api.ErrRange, h.Pos, 2, i, 2, j, 2)
		b.note(out(1, h.Speed, 10000), api.ErrRange, h.Pos, 2, i, 2, j, 2)
		b.note(out(-200, h.Grade, 200), api.ErrRange, h.Pos, 2, i, 2, j, 2)
		b.note(out(0, h.Width, 100000), api.ErrRange, h.Pos, 2, i, 2, j, 2)
		b.note(out(0, h.Length, 100000), api.ErrRange, h.Pos, 2, i, 2, j, 2)
		b.note(out(1, h.Green, 6000), api.ErrRange, h.Pos, 2, i, 2, j, 2)
	}
}

func (b *book) phases(i int, x api.Node) {
	served := []string{} // in the order of the text, whoever has them
	for j, p := range x.Phases {
		b.note(aheadIn(phasesOf(x), j), api.ErrTwice, p.Pos, 2, i, 3, j, 1)
		for k, h := range p.Heads {
			b.note(!slices.Contains(headsOf(x), h), api.ErrName, p.Pos, 2, i, 3, j, 2, k, 1)
			b.note(slices.Contains(served, h), api.ErrTwice, p.Pos, 2, i, 3, j, 2, k, 2)
			served = append(served, h)
		}
		b.note(len(p.Heads) == 0, api.ErrEmpty, p.Pos, 2, i, 3, j, 3)
	}
	for j, h := range x.Heads {
		b.note(!slices.Contains(served, h.Name), api.ErrEmpty, h.Pos, 2, i, 4, j)
	}
}

func (b *book) walks(i int, x api.Node) {
	all := namesOf(x.Peds, func(w api.Ped) string { return w.Name })
	for j, w := range x.Peds {
		b.note(aheadIn(all, j), api.ErrTwice, w.Pos, 2, i, 5, j, 1)
		b.note(!slices.Contains(phasesOf(x), w.Phase), api.ErrName, w.Pos, 2, i, 5, j, 2)
		b.note(out(1, w.Long, 100000) || out(1, w.Pace, 10000) || out(1, w.Walk, 6000), api.ErrRange, w.Pos, 2, i, 5, j, 3)
	}
}

func (b *book) groups(i int, x api.Node) {
	stood := []string{}
	for j, g := range x.Groups {
		b.note(len(g.Rings) < 1 || len(g.Rings) > 2, api.ErrRing, x.Pos, 2, i, 6, j, 1)
		for k, r := range g.Rings {
			b.note(len(r.Phases) < 1 || len(r.Phases) > 4, api.ErrRing, x.Pos, 2, i, 6, j, 2, k, 1)
			for m, p := range r.Phases {
				b.note(!slices.Contains(phasesOf(x), p), api.ErrName, x.Pos, 2, i, 6, j, 2, k, 2, m, 1)
				b.note(slices.Contains(stood, p), api.ErrTwice, x.Pos, 2, i, 6, j, 2, k, 2, m, 2)
				stood = append(stood, p)
			}
		}
	}
	for j, p := range x.Phases {
		b.note(!slices.Contains(stood, p.Name), api.ErrRing, p.Pos, 2, i, 7, j)
	}
}

func (b *book) foes(i int, x api.Node) {
	for j, f := range x.Foes {
		b.note(!slices.Contains(headsOf(x), f.A), api.ErrName, f.Pos, 2, i, 8, j, 1)
		b.note(!slices.Contains(headsOf(x), f.B), api.ErrName, f.Pos, 2, i, 8, j, 1)
		b.note(f.A == f.B, api.ErrFoe, f.Pos, 2, i, 8, j, 2)
		for _, p := range x.Phases {
			b.note(slices.Contains(p.Heads, f.A) && slices.Contains(p.Heads, f.B), api.ErrFoe, f.Pos, 2, i, 8, j, 2)
		}
	}
}

func (b *book) stop(i int, s api.Stop, n api.Net) {
	all := namesOf(n.Stops, func(s api.Stop) string { return s.Node })
	b.note(!slices.Contains(nodesOf(n), s.Node), api.ErrName, s.Pos, 3, i, 1)
	b.note(aheadIn(all, i), api.ErrTwice, s.Pos, 3, i, 2)
	for _, x := range n.Nodes {
		for _, h := range []string{s.Out, s.In} {
			b.note(x.Name == s.Node && !slices.Contains(headsOf(x), h), api.ErrName, s.Pos, 3, i, 3)
		}
	}
	b.note(out(0, s.Ahead, 6000) || out(0, s.Back, 6000), api.ErrRange, s.Pos, 3, i, 4)
	b.note(i == 0 && (s.Ahead != 0 || s.Back != 0), api.ErrArtery, s.Pos, 3, i, 5)
}

// hold asks that Check answers as the chapter says, twice the same, and leaves the network as it was.
func hold(t *testing.T, n api.Net) {
	t.Helper()
	before := fmt.Sprintf("%#v", n)
	want, place := allWrong(n).first()
	for range 2 {
		if e, at := Check(n); e != want || at != place {
			t.Fatalf("Check(%v): error %d at %d; want %d at %d", n, e, at, want, place)
		}
	}
	if after := fmt.Sprintf("%#v", n); after != before {
		t.Fatalf("Check left\n%s; want\n%s", after, before)
	}
}

// tells asks for one answer, and that the chapter told another way gives it too.
func tells(t *testing.T, n api.Net, want api.Errno, place int) {
	t.Helper()
	if e, at := Check(n); e != want || at != place {
		t.Fatalf("Check(%v): error %d at %d; want %d at %d", n, e, at, want, place)
	}
	hold(t, n)
}
