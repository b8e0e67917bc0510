package valid

import (
	"slices"
	"testing"

	"carrefour/api"
	"carrefour/net"
)

// crossing is a node with all parts, and more than one of each.
const crossing = ` {
  head n volume 400 flow 1800 use 1/1 speed 1500 grade -20 width 1800 length 600 green 70;
  head s volume 410 flow 1810 use 21/20 speed 1510 grade 20 width 1810 length 610 green 71;
  head e volume 300 flow 1700 use 2/2 speed 1100 grade 3 width 2000 length 620 green 50;
  head w volume 310 flow 1710 use 9/10 speed 1110 grade -3 width 2010 length 630 green 51;
  head x volume 0 flow 1 use 1/2 speed 1 grade 0 width 0 length 0 green 1;
  walk v with p long 1500 pace 120 least 70;
  walk u with p long 1400 pace 110 least 71;
  walk o with t long 1300 pace 100 least 72;
  phase p: n, s;
  phase q: e;
  phase r: w;
  phase t: x;
  group { ring free p, q; ring r; }
  group { ring t; }
  foe n e; foe w s; foe x n;
}
`

// all is a network that may be, with all its parts.
const all = `cycle 600 to 1200 by 10; peak 92/100;
node a` + crossing + `node b` + crossing + `
node c { head n volume 4 flow 18 use 1/1 speed 15 grade 0 width 18 length 6 green 10; phase n: n; group { ring n; } }
artery { stop b out n in s ahead 0 back 0; stop a out e in e ahead 300 back 310; stop c out n in n ahead 100 back 0; weights 2 1; }`

// bare is a network that may be, with none of those that may be left out.
const bare = `cycle 1 to 1 by 1; peak 1/1;
node c { head n volume 0 flow 1 use 1/1 speed 1 grade 0 width 0 length 0 green 1; phase n: n; group { ring n; } }`

// read tells a network in memory of its own, with the places of its text.
func read(t *testing.T, text string) api.Net {
	t.Helper()
	n, e, at := net.Parse([]byte(text))
	if e != api.OK {
		t.Fatalf("%s: error %d at %d", text, e, at)
	}
	return n
}

// nth and last tell one of a list, or one of nothing, where a slip ahead has emptied the list.
func nth[T any](l []T, i int) *T {
	if i >= len(l) || i < 0 {
		return new(T)
	}
	return &l[i]
}

func last[T any](l []T) *T { return nth(l, len(l)-1) }

// atLeast repeats a list till there are so many.
func atLeast[T any](l []T, many int) []T {
	if len(l) == 0 {
		return make([]T, many)
	}
	return slices.Repeat(l, (many+len(l)-1)/len(l))[:many]
}

// slip is one thing that is wrong. What else it makes wrong comes behind it in the chapter.
type slip struct {
	name  string
	put   func(*api.Net)
	error api.Errno
	place func(*api.Net) int
}

// slips are in the chapter's order: of two of them the first one is told.
func slips() []slip {
	l := wholeSlips()
	l = append(l, nodeSlips(0)...)
	l = append(l, slip{"a node's name", func(n *api.Net) { nth(n.Nodes, 1).Name = nth(n.Nodes, 0).Name }, api.ErrTwice, func(n *api.Net) int { return nth(n.Nodes, 1).Pos }})
	l = append(l, nodeSlips(1)...)
	return append(l, stopSlips()...)
}

func wholeSlips() []slip {
	zero := func(*api.Net) int { return 0 }
	return []slip{
		{"nodes", func(n *api.Net) { n.Nodes = atLeast(n.Nodes, api.MaxNodes+1) }, api.ErrLong, zero},
		{"stops", func(n *api.Net) { n.Stops = atLeast(n.Stops, api.MaxNodes+1) }, api.ErrLong, zero},
		{"Min", func(n *api.Net) { n.Min = 0 }, api.ErrRange, zero},
		{"Max", func(n *api.Net) { n.Max = api.MaxTime + 1 }, api.ErrRange, zero},
		{"Min and Max", func(n *api.Net) { n.Min = n.Max + 1 }, api.ErrRange, zero},
		{"Step", func(n *api.Net) { n.Step = 0 }, api.ErrRange, zero},
		{"Peak.Num", func(n *api.Net) { n.Peak.Num = 0 }, api.ErrRange, zero},
		{"Peak.Den", func(n *api.Net) { n.Peak.Den = 0 }, api.ErrRange, zero},
		{"WOut", func(n *api.Net) { n.WOut = -1 }, api.ErrRange, zero},
		{"WIn", func(n *api.Net) { n.WIn = -1 }, api.ErrRange, zero},
		{"no node", func(n *api.Net) { n.Nodes = nil }, api.ErrEmpty, zero},
	}
}

// nodeSlips are those of the node k, but for its name.
func nodeSlips(k int) []slip {
	var l []slip
	add := func(name string, e api.Errno, place func(*api.Node) int, put func(*api.Node)) {
		l = append(l, slip{name + " of node " + string(rune('0'+k)),
			func(n *api.Net) { put(nth(n.Nodes, k)) }, e,
			func(n *api.Net) int { return place(nth(n.Nodes, k)) }})
	}
	here := func(x *api.Node) int { return x.Pos }
	firstHead := func(x *api.Node) int { return nth(x.Heads, 0).Pos }
	lastHead := func(x *api.Node) int { return last(x.Heads).Pos }
	firstPhase := func(x *api.Node) int { return nth(x.Phases, 0).Pos }
	lastPhase := func(x *api.Node) int { return last(x.Phases).Pos }
	firstWalk := func(x *api.Node) int { return nth(x.Peds, 0).Pos }
	lastWalk := func(x *api.Node) int { return last(x.Peds).Pos }
	firstFoe := func(x *api.Node) int { return nth(x.Foes, 0).Pos }
	lastFoe := func(x *api.Node) int { return last(x.Foes).Pos }

	add("heads", api.ErrLong, here, func(x *api.Node) { x.Heads = atLeast(x.Heads, api.MaxHeads+1) })
	add("phases", api.ErrLong, here, func(x *api.Node) { x.Phases = atLeast(x.Phases, api.MaxHeads+1) })
	add("walks", api.ErrLong, here, func(x *api.Node) { x.Peds = atLeast(x.Peds, api.MaxPeds+1) })
	add("groups", api.ErrLong, here, func(x *api.Node) { x.Groups = atLeast(x.Groups, api.MaxGroups+1) })
	add("foes", api.ErrLong, here, func(x *api.Node) { x.Foes = atLeast(x.Foes, api.MaxFoes+1) })
	add("no head", api.ErrEmpty, here, func(x *api.Node) { x.Heads = nil })
	add("no phase", api.ErrEmpty, here, func(x *api.Node) { x.Phases = nil })
	add("no group", api.ErrEmpty, here, func(x *api.Node) { x.Groups = nil })

	add("first head's number", api.ErrRange, firstHead, func(x *api.Node) { nth(x.Heads, 0).Speed = 0 })
	add("last head's name", api.ErrTwice, lastHead, func(x *api.Node) {
		h := *last(x.Heads)
		h.Pos += 5
		x.Heads = append(x.Heads, h)
	})
	add("last head's number", api.ErrRange, lastHead, func(x *api.Node) { last(x.Heads).Green = 0 })

	add("first phase's head", api.ErrName, firstPhase, func(x *api.Node) { nth(x.Phases, 0).Heads = []string{"n", "s", "nobody"} })
	add("last phase's name", api.ErrTwice, lastPhase, func(x *api.Node) { last(x.Phases).Name = nth(x.Phases, 0).Name })
	add("last phase's first head", api.ErrName, lastPhase, func(x *api.Node) { last(x.Phases).Heads = []string{"nobody", "x"} })
	add("last phase's head of another phase", api.ErrTwice, lastPhase, func(x *api.Node) { last(x.Phases).Heads = append([]string{"x"}, nth(x.Phases, 1).Heads...) })
	add("last phase's head that stands in it", api.ErrTwice, lastPhase, func(x *api.Node) { last(x.Phases).Heads = []string{"x", "x"} })
	add("last phase without heads", api.ErrEmpty, lastPhase, func(x *api.Node) { last(x.Phases).Heads = nil })

	add("head without a phase", api.ErrEmpty, lastHead, func(x *api.Node) {
		h := *nth(x.Heads, 1)
		h.Name = "lost"
		h.Pos += 7
		x.Heads = append(x.Heads, h)
	})

	add("first walk's number", api.ErrRange, firstWalk, func(x *api.Node) { nth(x.Peds, 0).Walk = 0 })
	add("last walk's name", api.ErrTwice, lastWalk, func(x *api.Node) { last(x.Peds).Name = nth(x.Peds, 0).Name })
	add("last walk's phase", api.ErrName, lastWalk, func(x *api.Node) { last(x.Peds).Phase = "nobody" })
	add("last walk's number", api.ErrRange, lastWalk, func(x *api.Node) { last(x.Peds).Pace = 0 })

	l = append(l, groupSlips(k)...)

	add("first phase in no ring", api.ErrRing, firstPhase, func(x *api.Node) { nth(nth(x.Groups, 0).Rings, 0).Phases = []string{"q"} })
	add("last phase in no ring", api.ErrRing, lastPhase, func(x *api.Node) { x.Groups = x.Groups[:min(len(x.Groups), 1)] })

	add("first foes are one", api.ErrFoe, firstFoe, func(x *api.Node) { nth(x.Foes, 0).A = nth(x.Foes, 0).B })
	add("last foe's A", api.ErrName, lastFoe, func(x *api.Node) { last(x.Foes).A = "nobody" })
	add("last foe's B", api.ErrName, lastFoe, func(x *api.Node) { last(x.Foes).B = "nobody" })
	add("last foes of one phase", api.ErrFoe, lastFoe, func(x *api.Node) { *last(x.Foes) = api.Foe{A: "n", B: "s", Pos: last(x.Foes).Pos} })
	add("last foes are one", api.ErrFoe, lastFoe, func(x *api.Node) { *last(x.Foes) = api.Foe{A: "n", B: "n", Pos: last(x.Foes).Pos} })
	return l
}

// groupSlips are those of the rings of the node k: all of them are told at the node.
func groupSlips(k int) []slip {
	var l []slip
	add := func(name string, e api.Errno, put func(l []api.Group)) {
		l = append(l, slip{name + " of node " + string(rune('0'+k)),
			func(n *api.Net) { put(nth(n.Nodes, k).Groups) }, e,
			func(n *api.Net) int { return nth(n.Nodes, k).Pos }})
	}
	add("first group without rings", api.ErrRing, func(l []api.Group) { nth(l, 0).Rings = nil })
	add("first group's rings", api.ErrRing, func(l []api.Group) { nth(l, 0).Rings = atLeast(nth(l, 0).Rings, api.MaxRings+1) })
	add("first ring without phases", api.ErrRing, func(l []api.Group) { nth(nth(l, 0).Rings, 0).Phases = nil })
	add("first ring's phases", api.ErrRing, func(l []api.Group) {
		nth(nth(l, 0).Rings, 0).Phases = []string{"nobody", "nobody", "p", "q", "r"}
	})
	add("first ring's phase", api.ErrName, func(l []api.Group) { nth(nth(l, 0).Rings, 0).Phases = []string{"p", "nobody", "q"} })
	add("first ring's phase that stands in it", api.ErrTwice, func(l []api.Group) { nth(nth(l, 0).Rings, 0).Phases = []string{"p", "q", "q"} })
	add("last ring without phases", api.ErrRing, func(l []api.Group) { last(nth(l, 0).Rings).Phases = nil })
	add("last ring's phases", api.ErrRing, func(l []api.Group) { last(nth(l, 0).Rings).Phases = []string{"r", "r", "r", "r", "r"} })
	add("last ring's phase", api.ErrName, func(l []api.Group) { last(nth(l, 0).Rings).Phases = []string{"r", "nobody"} })
	add("last ring's phase of the first ring", api.ErrTwice, func(l []api.Group) { last(nth(l, 0).Rings).Phases = []string{"r", "p"} })
	add("last group without rings", api.ErrRing, func(l []api.Group) { last(l).Rings = nil })
	add("last group's rings", api.ErrRing, func(l []api.Group) { last(l).Rings = atLeast(last(l).Rings, api.MaxRings+1) })
	add("last group's ring without phases", api.ErrRing, func(l []api.Group) { nth(last(l).Rings, 0).Phases = []string{} })
	add("last group's phase", api.ErrName, func(l []api.Group) { nth(last(l).Rings, 0).Phases = []string{"t", "nobody"} })
	add("last group's phase of the first group", api.ErrTwice, func(l []api.Group) { nth(last(l).Rings, 0).Phases = []string{"t", "r"} })
	return l
}

func stopSlips() []slip {
	var l []slip
	add := func(name string, i int, e api.Errno, put func(n *api.Net, s *api.Stop)) {
		l = append(l, slip{name,
			func(n *api.Net) { put(n, nth(n.Stops, i)) }, e,
			func(n *api.Net) int { return nth(n.Stops, i).Pos }})
	}
	add("first stop's node", 0, api.ErrName, func(_ *api.Net, s *api.Stop) { s.Node = "nobody" })
	add("first stop's Out", 0, api.ErrName, func(_ *api.Net, s *api.Stop) { s.Out = "nobody" })
	add("first stop's In", 0, api.ErrName, func(_ *api.Net, s *api.Stop) { s.In = "nobody" })
	add("first stop's number", 0, api.ErrRange, func(_ *api.Net, s *api.Stop) { s.Ahead = -1 })
	add("first stop's Ahead", 0, api.ErrArtery, func(_ *api.Net, s *api.Stop) { s.Ahead = 1 })
	add("first stop's Back", 0, api.ErrArtery, func(_ *api.Net, s *api.Stop) { s.Back = 1 })
	add("second stop's node", 1, api.ErrName, func(_ *api.Net, s *api.Stop) { s.Node = "nobody" })
	add("second stop's node that a stop ahead has", 1, api.ErrTwice, func(n *api.Net, s *api.Stop) { s.Node = nth(n.Stops, 0).Node })
	add("second stop's Out", 1, api.ErrName, func(_ *api.Net, s *api.Stop) { s.Out = "nobody" })
	add("second stop's In", 1, api.ErrName, func(_ *api.Net, s *api.Stop) { s.In = "nobody" })
	add("second stop's Ahead", 1, api.ErrRange, func(_ *api.Net, s *api.Stop) { s.Ahead = api.MaxTime + 1 })
	add("second stop's Back", 1, api.ErrRange, func(_ *api.Net, s *api.Stop) { s.Back = -1 })
	add("third stop's node that a stop ahead has", 2, api.ErrTwice, func(n *api.Net, s *api.Stop) { s.Node = nth(n.Stops, 1).Node })
	return l
}

// Promise 7.2: each thing that may be wrong, alone, with its place.
func TestEachSlip(t *testing.T) {
	for _, s := range slips() {
		n := read(t, all)
		s.put(&n)
		if e, at := Check(n); e != s.error || at != s.place(&n) {
			t.Errorf("%s: error %d at %d; want %d at %d", s.name, e, at, s.error, s.place(&n))
		}
		hold(t, n)
	}
}

// Promise 7.2: of each two things that are wrong the first one is told.
func TestTwoSlips(t *testing.T) {
	l := slips()
	pairs, both := 0, 0
	for i, a := range l {
		for _, b := range l[i+1:] {
			n := read(t, all)
			a.put(&n)
			place := a.place(&n)
			b.put(&n)
			hold(t, n)
			pairs++
			// The second slip may have mended the first one.
			if !allWrong(n).has(a.error, place) {
				continue
			}
			both++
			if e, at := Check(n); e != a.error || at != place {
				t.Errorf("%s; %s: error %d at %d; want %d at %d", a.name, b.name, e, at, a.error, place)
			}
		}
	}
	if both < pairs*9/10 {
		t.Errorf("of %d pairs %d have both slips", pairs, both)
	}
}

// Promise 7.2: two nodes may be the same in all but their names.
func TestNodesAlike(t *testing.T) {
	n := read(t, all)
	n.Nodes[0], n.Nodes[1] = n.Nodes[1], n.Nodes[0]
	tells(t, n, api.OK, 0)
	n.Nodes[2].Name = "a"
	tells(t, n, api.ErrTwice, n.Nodes[2].Pos)
}
