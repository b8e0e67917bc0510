package valid

import (
	"fmt"
	"math"
	"math/rand"
	"reflect"
	"slices"
	"strconv"
	"strings"
	"testing"

	"carrefour/api"
)

// Promise 7.2: the chapter's examples, and the whole's.
func TestExamples(t *testing.T) {
	tells(t, read(t, "cycle 600 to 900 by 10; peak 1/1;"), api.ErrEmpty, 0)
	text := strings.Replace(all, "phase p: n, s;", "phase p: n;", 1)
	tells(t, read(t, text), api.ErrEmpty, strings.Index(text, "s volume"))
	tells(t, read(t, "cycle 0 to 0 by 0; peak 1/1;"), api.ErrRange, 0)
}

// Promise 7.1: names that are there once, twice, not at all, and empty ones.
func TestPlacesOfNames(t *testing.T) {
	l := []string{"a", "b", "", "b", "c", "a", ""}
	var n api.Net
	var x api.Node
	for _, s := range l {
		n.Nodes = append(n.Nodes, api.Node{Name: s})
		x.Heads = append(x.Heads, api.Head{Name: s})
		x.Phases = append(x.Phases, api.Phase{Name: s})
	}
	for name, want := range map[string]int{"a": 0, "b": 1, "": 2, "c": 4, "d": -1, "A": -1, "a ": -1, "aa": -1, "ab": -1, "\x00": -1} {
		if i := Node(n, name); i != want {
			t.Errorf("Node(%q): %d; want %d", name, i, want)
		}
		if i := Head(x, name); i != want {
			t.Errorf("Head(%q): %d; want %d", name, i, want)
		}
		if i := Phase(x, name); i != want {
			t.Errorf("Phase(%q): %d; want %d", name, i, want)
		}
	}
	n.Nodes[2].Name, x.Heads[2].Name, x.Phases[2].Name = "d", "d", "d"
	if Node(n, "") != 6 || Head(x, "") != 6 || Phase(x, "") != 6 {
		t.Error("the last one is not found")
	}
}

// Promise 7.1: each asks its own list.
func TestOwnLists(t *testing.T) {
	x := api.Node{
		Name: "a", Heads: []api.Head{{Name: "h"}, {Name: "g"}},
		Peds:   []api.Ped{{Name: "w", Phase: "f"}},
		Phases: []api.Phase{{Name: "p", Heads: []string{"i"}}, {Name: "g"}, {Name: "q", Heads: []string{"j", "k"}}},
		Groups: []api.Group{{Rings: []api.Row{{Phases: []string{"o"}}}}},
		Foes:   []api.Foe{{A: "y", B: "z"}},
	}
	n := api.Net{Nodes: []api.Node{x}, Stops: []api.Stop{{Node: "s", Out: "out", In: "in"}}}
	for name, want := range map[string][4]int{
		"a": {0, -1, -1, -1}, "h": {-1, 0, -1, -1}, "g": {-1, 1, 1, -1}, "p": {-1, -1, 0, -1}, "q": {-1, -1, 2, -1},
		"i": {-1, -1, -1, 0}, "j": {-1, -1, -1, 2}, "k": {-1, -1, -1, 2},
		"w": {-1, -1, -1, -1}, "f": {-1, -1, -1, -1}, "o": {-1, -1, -1, -1}, "y": {-1, -1, -1, -1}, "z": {-1, -1, -1, -1},
		"s": {-1, -1, -1, -1}, "out": {-1, -1, -1, -1}, "in": {-1, -1, -1, -1}, "": {-1, -1, -1, -1},
	} {
		if got := [4]int{Node(n, name), Head(x, name), Phase(x, name), Home(x, name)}; got != want {
			t.Errorf("%q: %v; want %v", name, got, want)
		}
	}
}

// Promise 7.1: the first phase that has a head, whether or not there is such a head.
func TestHome(t *testing.T) {
	x := api.Node{Phases: []api.Phase{
		{Name: "p", Heads: []string{"n", "s"}}, {Name: "q"}, {Name: "n", Heads: []string{"e", "e", "s"}}, {Name: "r", Heads: []string{"w", "", "n", "e"}},
	}}
	for head, want := range map[string]int{"n": 0, "s": 0, "e": 2, "w": 3, "": 3, "p": -1, "x": -1} {
		if i := Home(x, head); i != want {
			t.Errorf("Home(%q): %d; want %d", head, i, want)
		}
	}
	for _, p := range [][]api.Phase{nil, {}, {{}}, {{Heads: []string{}}}} {
		if i := Home(api.Node{Phases: p}, ""); i != -1 {
			t.Errorf("Home of nothing: %d", i)
		}
	}
}

// Promise 7.1, rules R1 and R3: of nothing there is nothing.
func TestNothing(t *testing.T) {
	for _, name := range []string{"", "a"} {
		for _, x := range []api.Node{{}, {Name: name, Heads: []api.Head{}, Phases: []api.Phase{}}} {
			if got := [3]int{Head(x, name), Phase(x, name), Home(x, name)}; got != [3]int{-1, -1, -1} {
				t.Errorf("%q: %v", name, got)
			}
		}
		if Node(api.Net{}, name) != -1 || Node(api.Net{Nodes: []api.Node{}}, name) != -1 {
			t.Errorf("Node(%q) of no nodes", name)
		}
	}
	tells(t, api.Net{}, api.ErrRange, 0)
	tells(t, api.Net{Nodes: make([]api.Node, api.MaxNodes+1)}, api.ErrLong, 0)
	n := api.Net{Min: 1, Max: 1, Step: 1, Peak: api.Frac{Num: 1, Den: 1}, Nodes: []api.Node{}, Stops: []api.Stop{{}}}
	tells(t, n, api.ErrEmpty, 0)
	n.Nodes = []api.Node{{Pos: 9}}
	tells(t, n, api.ErrEmpty, 9)
}

// Promise 7.2: networks that may be.
func TestMayBe(t *testing.T) {
	for _, text := range []string{all, bare} {
		tells(t, read(t, text), api.OK, 0)
	}
	for old, new := range map[string]string{
		"foe n e; foe w s;": "foe n e; foe n e; foe e n;", // foes that were foes ahead
		"walk u with p":     "walk p with p",              // a walk of a phase's name
		"ring free p, q":    "ring q, p",
		"stop a out e in e": "stop a out x in n",
		"weights 2 1":       "weights 0 0",
		"peak 92/100":       "peak 100/92",
		"by 10;":            "by 999999999999999999;",
	} {
		if !strings.Contains(all, old) {
			t.Fatal("no", old)
		}
		tells(t, read(t, strings.ReplaceAll(all, old, new)), api.OK, 0)
	}
	// Layer 7 asks names for nothing but that they are the same, or are not.
	n := read(t, bare)
	x := &n.Nodes[0]
	x.Name, x.Heads[0].Name, x.Phases[0] = "", "", api.Phase{Heads: []string{""}}
	x.Groups[0].Rings[0].Phases[0] = ""
	tells(t, n, api.OK, 0)
	x.Peds = []api.Ped{{Long: 1, Pace: 1, Walk: 1}}
	n.Stops = []api.Stop{{}}
	tells(t, n, api.OK, 0)
	x.Foes = []api.Foe{{Pos: 3}}
	tells(t, n, api.ErrFoe, 3)
}

// number is a number of a network, its bounds, and where it is told.
type number struct {
	name        string
	of          func(*api.Net) *int64
	least, most int64
	place       func(*api.Net) int
}

func numbersOfHead(k, i int) []number {
	var l []number
	add := func(name string, least, most int64, of func(*api.Head) *int64) {
		l = append(l, number{fmt.Sprint(name, " of head ", i, " of node ", k),
			func(n *api.Net) *int64 { return of(&n.Nodes[k].Heads[i]) }, least, most,
			func(n *api.Net) int { return n.Nodes[k].Heads[i].Pos }})
	}
	add("Volume", 0, api.MaxVolume, func(h *api.Head) *int64 { return &h.Volume })
	add("Sat", 1, api.MaxVolume, func(h *api.Head) *int64 { return &h.Sat })
	add("Use.Num", 1, api.MaxVolume, func(h *api.Head) *int64 { return &h.Use.Num })
	add("Use.Den", 1, api.MaxVolume, func(h *api.Head) *int64 { return &h.Use.Den })
	add("Speed", 1, api.MaxSpeed, func(h *api.Head) *int64 { return &h.Speed })
	add("Grade", -api.MaxGrade, api.MaxGrade, func(h *api.Head) *int64 { return &h.Grade })
	add("Width", 0, api.MaxSize, func(h *api.Head) *int64 { return &h.Width })
	add("Length", 0, api.MaxSize, func(h *api.Head) *int64 { return &h.Length })
	add("Green", 1, api.MaxTime, func(h *api.Head) *int64 { return &h.Green })
	return l
}

func numbersOfWalk(k, i int) []number {
	var l []number
	add := func(name string, most int64, of func(*api.Ped) *int64) {
		l = append(l, number{fmt.Sprint(name, " of walk ", i, " of node ", k),
			func(n *api.Net) *int64 { return of(&n.Nodes[k].Peds[i]) }, 1, most,
			func(n *api.Net) int { return n.Nodes[k].Peds[i].Pos }})
	}
	add("Long", api.MaxSize, func(w *api.Ped) *int64 { return &w.Long })
	add("Pace", api.MaxSpeed, func(w *api.Ped) *int64 { return &w.Pace })
	add("Walk", api.MaxTime, func(w *api.Ped) *int64 { return &w.Walk })
	return l
}

// numbers are those of the network all, but for the first stop's; Min and Max are held against each other.
func numbers() []number {
	zero := func(*api.Net) int { return 0 }
	l := []number{
		{"Min", func(n *api.Net) *int64 { return &n.Min }, 1, 1200, zero},
		{"Max", func(n *api.Net) *int64 { return &n.Max }, 600, api.MaxTime, zero},
		{"Step", func(n *api.Net) *int64 { return &n.Step }, 1, math.MaxInt64, zero},
		{"Peak.Num", func(n *api.Net) *int64 { return &n.Peak.Num }, 1, api.MaxVolume, zero},
		{"Peak.Den", func(n *api.Net) *int64 { return &n.Peak.Den }, 1, api.MaxVolume, zero},
		{"WOut", func(n *api.Net) *int64 { return &n.WOut }, 0, api.MaxVolume, zero},
		{"WIn", func(n *api.Net) *int64 { return &n.WIn }, 0, api.MaxVolume, zero},
	}
	for k := range 2 {
		for i := range 5 {
			l = append(l, numbersOfHead(k, i)...)
		}
		for i := range 3 {
			l = append(l, numbersOfWalk(k, i)...)
		}
	}
	l = append(l, numbersOfHead(2, 0)...)
	for i := 1; i < 3; i++ {
		place := func(n *api.Net) int { return n.Stops[i].Pos }
		l = append(l,
			number{fmt.Sprint("Ahead of stop ", i), func(n *api.Net) *int64 { return &n.Stops[i].Ahead }, 0, api.MaxTime, place},
			number{fmt.Sprint("Back of stop ", i), func(n *api.Net) *int64 { return &n.Stops[i].Back }, 0, api.MaxTime, place})
	}
	return l
}

// Promise 7.2: each number below, at and above each of its bounds, the least and the greatest of its type.
func TestNumbers(t *testing.T) {
	for _, c := range numbers() {
		tries := []int64{c.least - 1, c.least, c.least + 1, c.most - 1, c.most, 0, 1, -1, math.MinInt64, math.MinInt64 + 1, math.MaxInt64 - 1, math.MaxInt64, 1 << 32, 1<<32 + 1, -1 << 32}
		if c.most < math.MaxInt64 {
			tries = append(tries, c.most+1)
		}
		for _, v := range tries {
			n := read(t, all)
			*c.of(&n) = v
			want, place := api.OK, 0
			if v < c.least || v > c.most {
				want, place = api.ErrRange, c.place(&n)
			}
			if e, at := Check(n); e != want || at != place {
				t.Errorf("%s: %d: error %d at %d; want %d at %d", c.name, v, e, at, want, place)
			}
			hold(t, n)
		}
	}
}

// Promise 7.2: all numbers at their least, and at their greatest.
func TestAllAtTheEdge(t *testing.T) {
	low, high := read(t, all), read(t, all)
	for _, c := range numbers() {
		*c.of(&low), *c.of(&high) = c.least, c.most
	}
	low.Max, high.Min = 1, api.MaxTime
	tells(t, low, api.OK, 0)
	tells(t, high, api.OK, 0)
	for _, c := range []struct{ min, max int64 }{
		{601, 600}, {api.MaxTime + 1, api.MaxTime + 1}, {api.MaxTime + 1, api.MaxTime}, {0, 0}, {-5, -4}, {1, 0}, {0, 1},
		{math.MaxInt64, math.MinInt64}, {math.MinInt64, math.MaxInt64}, {math.MaxInt64, math.MaxInt64}, {math.MinInt64, math.MinInt64},
	} {
		n := read(t, all)
		n.Min, n.Max = c.min, c.max
		tells(t, n, api.ErrRange, 0)
	}
}

// Promise 7.2: the first stop's times.
func TestFirstStop(t *testing.T) {
	for _, c := range []struct {
		time int64
		want api.Errno
	}{
		{0, api.OK}, {1, api.ErrArtery}, {api.MaxTime, api.ErrArtery}, {api.MaxTime + 1, api.ErrRange},
		{-1, api.ErrRange}, {math.MinInt64, api.ErrRange}, {math.MaxInt64, api.ErrRange},
	} {
		for _, both := range [][2]int64{{c.time, 0}, {0, c.time}, {c.time, c.time}} {
			n := read(t, all)
			s := &n.Stops[0]
			s.Ahead, s.Back = both[0], both[1]
			place := s.Pos
			if c.want == api.OK {
				place = 0
			}
			tells(t, n, c.want, place)
		}
	}
	// The one is out of its range, the other is not.
	n := read(t, all)
	n.Stops[0].Ahead, n.Stops[0].Back = 1, -1
	tells(t, n, api.ErrRange, n.Stops[0].Pos)
	// What is no first stop may have no way, and a first stop need not be of the first node.
	n = read(t, all)
	n.Stops[1].Ahead, n.Stops[1].Back = 0, 0
	tells(t, n, api.OK, 0)
	n.Stops = n.Stops[1:]
	tells(t, n, api.OK, 0)
	n.Stops = n.Stops[1:]
	tells(t, n, api.ErrArtery, n.Stops[0].Pos)
}

func numbered(s string, i int) string { return s + strconv.Itoa(i) }

// fullNode tells a node with as much of everything as there may be.
func fullNode(name string, pos int) api.Node {
	x := api.Node{Name: name, Pos: pos}
	head := least().Nodes[0].Heads[0]
	phases := []string{}
	for i := range api.MaxHeads {
		head.Name, head.Pos = numbered("h", i), pos+1+i
		x.Heads = append(x.Heads, head)
		phases = append(phases, numbered("p", i))
		x.Phases = append(x.Phases, api.Phase{Name: phases[i], Heads: []string{head.Name}, Pos: pos + 101 + i})
	}
	for i := range api.MaxPeds {
		x.Peds = append(x.Peds, api.Ped{Name: numbered("w", i), Phase: numbered("p", i%3), Long: 1, Pace: 1, Walk: 1, Pos: pos + 201 + i})
	}
	x.Groups = []api.Group{
		{Rings: []api.Row{{Phases: phases[:4]}, {Phases: phases[4:8]}}}, {Rings: []api.Row{{Phases: phases[8:12]}, {Phases: phases[12:14]}}},
		{Rings: []api.Row{{Phases: phases[14:15]}}}, {Rings: []api.Row{{Phases: phases[15:]}}},
	}
	for i := range api.MaxFoes {
		x.Foes = append(x.Foes, api.Foe{A: numbered("h", i%16), B: numbered("h", (i%16+1+i/16)%16), Pos: pos + 301 + i})
	}
	return x
}

// least tells a network of the least numbers, without names.
func least() api.Net {
	return api.Net{
		Min: 1, Max: 1, Step: 1, Peak: api.Frac{Num: 1, Den: 1},
		Nodes: []api.Node{{Heads: []api.Head{{Sat: 1, Use: api.Frac{Num: 1, Den: 1}, Speed: 1, Green: 1}}}},
	}
}

func full() api.Net {
	n := least()
	n.Nodes = nil
	for i := range api.MaxNodes {
		n.Nodes = append(n.Nodes, fullNode(numbered("n", i), 1000*(i+1)))
		n.Stops = append(n.Stops, api.Stop{Node: numbered("n", i), Out: "h0", In: "h15", Pos: 99_001 + i})
	}
	return n
}

// Promise 7.2: as many of everything as there may be, and one more of each.
func TestLimits(t *testing.T) {
	tells(t, full(), api.OK, 0)
	for _, k := range []int{0, 5, api.MaxNodes - 1} {
		pos := 1000 * (k + 1)
		for _, c := range []struct {
			name string
			put  func(x *api.Node)
			want api.Errno
		}{
			{"heads", func(x *api.Node) {
				h := x.Heads[0]
				h.Name = "more"
				x.Heads = append(x.Heads, h)
				x.Phases[3].Heads = append(x.Phases[3].Heads, "more")
			}, api.ErrLong},
			{"phases", func(x *api.Node) {
				x.Phases = append(x.Phases, api.Phase{Name: "more", Heads: []string{"h0"}})
				x.Phases[0].Heads = []string{"h1"}
				x.Phases[1].Heads = []string{"h2"}
				x.Groups[3].Rings[0].Phases = []string{"p15", "more"}
			}, api.ErrLong},
			{"walks", func(x *api.Node) {
				x.Peds = append(x.Peds, api.Ped{Name: "more", Phase: "p0", Long: 1, Pace: 1, Walk: 1})
			}, api.ErrLong},
			{"groups", func(x *api.Node) {
				x.Groups[1].Rings = x.Groups[1].Rings[:1]
				x.Groups = append(x.Groups, api.Group{Rings: []api.Row{{Phases: []string{"p12", "p13"}}}})
			}, api.ErrLong},
			{"foes", func(x *api.Node) { x.Foes = append(x.Foes, api.Foe{A: "h0", B: "h8"}) }, api.ErrLong},
			{"rings", func(x *api.Node) {
				x.Groups[1].Rings = append(x.Groups[1].Rings, api.Row{Phases: []string{"p14"}})
				x.Groups = append(x.Groups[:2], x.Groups[3])
			}, api.ErrRing},
			{"a ring's phases", func(x *api.Node) {
				x.Groups[0].Rings[1].Phases = append(slices.Clone(x.Groups[0].Rings[1].Phases), "p14")
				x.Groups = append(x.Groups[:2], x.Groups[3])
			}, api.ErrRing},
		} {
			n := full()
			c.put(&n.Nodes[k])
			if e, at := Check(n); e != c.want || at != pos {
				t.Errorf("one more of %s: error %d at %d; want %d at %d", c.name, e, at, c.want, pos)
			}
			hold(t, n)
		}
	}
	n := full()
	n.Nodes = append(n.Nodes, fullNode("more", 99))
	tells(t, n, api.ErrLong, 0)
	n = full()
	n.Stops = append(n.Stops, api.Stop{Node: "more"})
	tells(t, n, api.ErrLong, 0)
}

// Promise 7.2: one phase may have all heads, and be all there is.
func TestOnePhase(t *testing.T) {
	n := full()
	x := &n.Nodes[4]
	x.Phases = []api.Phase{{Name: "p0", Heads: headsOf(*x), Pos: 77}}
	x.Groups = []api.Group{{Rings: []api.Row{{Phases: []string{"p0"}}}}}
	x.Peds = nil
	tells(t, n, api.ErrFoe, x.Foes[0].Pos)
	x.Foes = nil
	tells(t, n, api.OK, 0)
	// More names than there are heads: one of them is none, or stands there twice.
	x.Phases[0].Heads = append(x.Phases[0].Heads, "h3")
	tells(t, n, api.ErrTwice, 77)
	x.Phases[0].Heads[16] = "h16"
	tells(t, n, api.ErrName, 77)
	x.Phases[0].Heads = slices.Repeat([]string{"h16"}, 100_000)
	tells(t, n, api.ErrName, 77)
}

// Promise 7.2: a phase's heads, one by one.
func TestPhaseHeads(t *testing.T) {
	for _, c := range []struct {
		phase int
		heads string
		want  api.Errno
	}{
		{3, "nobody", api.ErrName}, {3, "n", api.ErrTwice}, {3, "s", api.ErrTwice}, {3, "x x", api.ErrTwice}, {3, "", api.ErrEmpty},
		{3, "n nobody", api.ErrTwice}, {3, "nobody n", api.ErrName}, {3, "x nobody x", api.ErrName}, {3, "x x nobody", api.ErrTwice},
		{3, "nobody nobody", api.ErrName}, {3, "p", api.ErrName}, {3, "v", api.ErrName}, {3, "x w", api.ErrTwice},
		{0, "n n s", api.ErrTwice}, {0, "n s nobody", api.ErrName}, {0, "", api.ErrEmpty}, {2, "w e", api.ErrTwice},
	} {
		n := read(t, all)
		p := &n.Nodes[1].Phases[c.phase]
		p.Heads = strings.Fields(c.heads)
		tells(t, n, c.want, p.Pos)
		// A name that was there comes first, whatever the heads are.
		if c.phase > 0 {
			p.Name = "p"
			tells(t, n, api.ErrTwice, p.Pos)
		}
	}
	// A phase ahead takes a head from one behind, at which it is told.
	n := read(t, all)
	n.Nodes[0].Phases[1].Heads = []string{"e", "x"}
	tells(t, n, api.ErrTwice, n.Nodes[0].Phases[3].Pos)
	// Of heads that no phase has the first one is told, and not in the order of phases.
	n = read(t, all)
	n.Nodes[0].Phases[0].Heads = []string{"s"}
	n.Nodes[0].Phases[3].Heads = []string{"n"}
	tells(t, n, api.ErrEmpty, n.Nodes[0].Heads[4].Pos)
	n.Nodes[0].Phases[1].Heads = []string{"w"}
	n.Nodes[0].Phases[2].Heads = []string{"x"}
	tells(t, n, api.ErrEmpty, n.Nodes[0].Heads[2].Pos)
}

// ringsOf reads groups parted by |, of rings parted by /.
func ringsOf(s string) []api.Group {
	l := []api.Group{}
	for _, g := range strings.Split(s, "|") {
		var rings []api.Row
		if g != "-" {
			for _, r := range strings.Split(g, "/") {
				rings = append(rings, api.Row{Phases: strings.Fields(r), Free: len(l)%2 == 1})
			}
		}
		l = append(l, api.Group{Rings: rings})
	}
	return l
}

// Promise 7.2: groups, rings and their phases, one by one; - is a group without rings.
func TestRings(t *testing.T) {
	const here = -1 // at the node; else at a phase
	for _, c := range []struct {
		groups string
		want   api.Errno
		at     int
	}{
		{"-", api.ErrRing, here}, {"p q r t|-", api.ErrRing, here}, {"p/q/r", api.ErrRing, here}, {"p q r t|p/q/r", api.ErrRing, here},
		{"", api.ErrRing, here}, {"p/", api.ErrRing, here}, {"p q r t|", api.ErrRing, here}, {"/p", api.ErrRing, here},
		{"p q r t p", api.ErrRing, here}, {"p/q r t nobody x", api.ErrRing, here}, {"p q r t nobody/", api.ErrRing, here},
		{"nobody", api.ErrName, here}, {"p nobody q", api.ErrName, here}, {"p/nobody", api.ErrName, here}, {"p|nobody", api.ErrName, here},
		{"n", api.ErrName, here}, {"v", api.ErrName, here}, {"p nobody/", api.ErrName, here}, {"nobody|-", api.ErrName, here}, {"nobody|q q", api.ErrName, here}, {"nobody nobody", api.ErrName, here},
		{"p p", api.ErrTwice, here}, {"p q r p", api.ErrTwice, here}, {"p/p", api.ErrTwice, here}, {"p q/r q", api.ErrTwice, here},
		{"p|p", api.ErrTwice, here}, {"p q/r|t q", api.ErrTwice, here}, {"p/q|r/p", api.ErrTwice, here}, {"p|q|r|t p", api.ErrTwice, here},
		{"p p nobody", api.ErrTwice, here}, {"p nobody p", api.ErrName, here}, {"p p/", api.ErrTwice, here}, {"p/p|-", api.ErrTwice, here}, {"p/p|p/q/r", api.ErrTwice, here},
		{"p", api.ErrRing, 1}, {"q r t", api.ErrRing, 0}, {"p/r|t", api.ErrRing, 1}, {"t r|q", api.ErrRing, 0}, {"p|r|q", api.ErrRing, 3}, {"t", api.ErrRing, 0},
		{"p q r t", api.OK, 0}, {"t r q p", api.OK, 0}, {"p q/r t", api.OK, 0}, {"p/q|r/t", api.OK, 0}, {"p|q|r|t", api.OK, 0}, {"p|q/t r", api.OK, 0},
	} {
		for k := range 2 {
			n := read(t, all)
			x := &n.Nodes[k]
			x.Groups = ringsOf(c.groups)
			place := x.Pos
			if c.want == api.OK {
				place = 0
			} else if c.at != here {
				place = x.Phases[c.at].Pos
			}
			if e, at := Check(n); e != c.want || at != place {
				t.Errorf("%q: error %d at %d; want %d at %d", c.groups, e, at, c.want, place)
			}
			hold(t, n)
		}
	}
}

// Promise 7.2: foes, by foes, at their own place.
func TestFoes(t *testing.T) {
	for foe, want := range map[string]api.Errno{
		"n e": api.OK, "e n": api.OK, "s x": api.OK, "w x": api.OK,
		"n n": api.ErrFoe, "x x": api.ErrFoe, "n s": api.ErrFoe, "s n": api.ErrFoe,
		"n nobody": api.ErrName, "nobody n": api.ErrName, "nobody nobody": api.ErrName, "p e": api.ErrName, "e q": api.ErrName, "v n": api.ErrName, "e a": api.ErrName,
	} {
		a, b, _ := strings.Cut(foe, " ")
		for i := range 3 {
			n := read(t, all)
			f := &n.Nodes[1].Foes[i]
			f.A, f.B = a, b
			place := f.Pos
			if want == api.OK {
				place = 0
			}
			tells(t, n, want, place)
		}
	}
	n := read(t, all)
	n.Nodes[0].Foes = []api.Foe{{A: "n", B: "e", Pos: 1}, {A: "n", B: "s", Pos: 2}, {A: "nobody", B: "e", Pos: 3}}
	tells(t, n, api.ErrFoe, 2)
	slices.Reverse(n.Nodes[0].Foes)
	tells(t, n, api.ErrName, 3)
}

// Promise 7.2: walks, one by one.
func TestWalks(t *testing.T) {
	n := read(t, all)
	l := n.Nodes[1].Peds
	l[2].Name = "u"
	tells(t, n, api.ErrTwice, l[2].Pos)
	l[2].Phase, l[2].Long = "nobody", 0
	tells(t, n, api.ErrTwice, l[2].Pos)
	l[2].Name = "o"
	tells(t, n, api.ErrName, l[2].Pos)
	l[2].Phase = "q"
	tells(t, n, api.ErrRange, l[2].Pos)
	l[1].Phase = "n"
	tells(t, n, api.ErrName, l[1].Pos)
	l[0].Walk = 0
	tells(t, n, api.ErrRange, l[0].Pos)
	// Walks of two nodes may have one name.
	n = read(t, all)
	n.Nodes[2].Peds = []api.Ped{{Name: "v", Phase: "n", Long: 1, Pace: 1, Walk: 1}}
	tells(t, n, api.OK, 0)
	n.Nodes[2].Peds[0].Phase = "p"
	tells(t, n, api.ErrName, 0)
}

// Promise 7.2: stops, one by one.
func TestStops(t *testing.T) {
	n := read(t, all)
	l := n.Stops
	l[1].Node = "d"
	tells(t, n, api.ErrName, l[1].Pos)
	l[2].Node = "d" // no node, and a stop ahead has it
	tells(t, n, api.ErrName, l[1].Pos)
	l[1].Node, l[1].Out, l[1].Ahead = "b", "nobody", -1
	tells(t, n, api.ErrTwice, l[1].Pos)
	l[1].Node = "a"
	tells(t, n, api.ErrName, l[1].Pos)
	l[1].Out = "e"
	tells(t, n, api.ErrRange, l[1].Pos)
	l[0].Back = 1
	tells(t, n, api.ErrArtery, l[0].Pos)
	// A head of another node is none of this one.
	for _, put := range []func(*api.Stop){func(s *api.Stop) { s.Out = "e" }, func(s *api.Stop) { s.In = "e" }, func(s *api.Stop) { s.Out = "" }, func(s *api.Stop) { s.In = "p" }} {
		n = read(t, all)
		put(&n.Stops[2])
		tells(t, n, api.ErrName, n.Stops[2].Pos)
	}
	// There may be none, also where weights are told, and no weight where there are some.
	n = read(t, all)
	n.Stops = nil
	tells(t, n, api.OK, 0)
	n = read(t, all)
	n.WOut, n.WIn = 0, 0
	tells(t, n, api.OK, 0)
}

// eachPos goes over the places of a network.
func eachPos(n *api.Net, put func(*int)) {
	for i := range n.Nodes {
		x := &n.Nodes[i]
		put(&x.Pos)
		for j := range x.Heads {
			put(&x.Heads[j].Pos)
		}
		for j := range x.Peds {
			put(&x.Peds[j].Pos)
		}
		for j := range x.Phases {
			put(&x.Phases[j].Pos)
		}
		for j := range x.Foes {
			put(&x.Foes[j].Pos)
		}
	}
	for i := range n.Stops {
		put(&n.Stops[i].Pos)
	}
}

// Promise 7.2: places are told from Pos, whatever stands there; they do not tell what comes first.
func TestPlaces(t *testing.T) {
	for _, next := range []func(int) int{
		func(i int) int { return -1 - i },
		func(int) int { return 0 },
		func(int) int { return 7 },
		func(int) int { return math.MinInt },
		func(i int) int { return math.MaxInt - i },
		func(i int) int { return 5 * (i % 3) },
		func(i int) int { return 1_000_000 - i },
	} {
		for _, s := range slips() {
			n := read(t, all)
			s.put(&n)
			i := 0
			eachPos(&n, func(p *int) { *p, i = next(i), i+1 })
			if e, at := Check(n); e != s.error || at != s.place(&n) {
				t.Errorf("%s: error %d at %d; want %d at %d", s.name, e, at, s.error, s.place(&n))
			}
		}
		n := read(t, all)
		i := 0
		eachPos(&n, func(p *int) { *p, i = next(i), i+1 })
		tells(t, n, api.OK, 0)
	}
}

// withRoom tells a list that is the front of a longer one, which it keeps.
func withRoom[T any](l []T, behind T, kept *[]any) []T {
	longer := append(slices.Clone(l), behind, behind)
	*kept = append(*kept, longer)
	return longer[:len(l)]
}

// spread puts each list of a network into room of its own, and tells all that room.
func spread(n *api.Net) []any {
	kept := []any{}
	n.Nodes = withRoom(n.Nodes, api.Node{Name: "behind"}, &kept)
	n.Stops = withRoom(n.Stops, api.Stop{Node: "behind"}, &kept)
	for i := range n.Nodes {
		x := &n.Nodes[i]
		x.Heads = withRoom(x.Heads, api.Head{Name: "behind"}, &kept)
		x.Peds = withRoom(x.Peds, api.Ped{Name: "behind"}, &kept)
		x.Phases = withRoom(x.Phases, api.Phase{Name: "behind"}, &kept)
		x.Groups = withRoom(x.Groups, api.Group{}, &kept)
		x.Foes = withRoom(x.Foes, api.Foe{A: "behind"}, &kept)
		for j := range x.Phases {
			x.Phases[j].Heads = withRoom(x.Phases[j].Heads, "behind", &kept)
		}
		for j := range x.Groups {
			g := &x.Groups[j]
			g.Rings = withRoom(g.Rings, api.Row{Free: true}, &kept)
			for k := range g.Rings {
				g.Rings[k].Phases = withRoom(g.Rings[k].Phases, "behind", &kept)
			}
		}
	}
	return kept
}

// Rule R4: a network is left as it was, behind the ends of its lists too; what stands there is none of it.
func TestLeftAsItWas(t *testing.T) {
	for _, s := range append(slips(), slip{put: func(*api.Net) {}}) {
		n := read(t, all)
		s.put(&n)
		kept := spread(&n)
		before := fmt.Sprintf("%#v", kept)
		hold(t, n)
		found := []int{Node(n, "behind")}
		for _, x := range n.Nodes {
			found = append(found, Head(x, "behind"), Phase(x, "behind"), Home(x, "behind"))
		}
		if slices.Max(found) != -1 {
			t.Fatalf("%s: behind the end of a list something is found: %v", s.name, found)
		}
		if after := fmt.Sprintf("%#v", kept); after != before {
			t.Fatalf("%s: a network is changed:\n%s; want\n%s", s.name, after, before)
		}
	}
}

// maker makes networks that may nearly be.
type maker struct{ *rand.Rand }

// touch changes something somewhere in a network.
func (m maker) touch(n *api.Net) {
	var l []reflect.Value
	valuesIn(reflect.ValueOf(n).Elem(), &l)
	v := l[m.Intn(len(l))]
	switch v.Kind() {
	case reflect.String:
		names := strings.Fields("a b c n s e w x v u o p q r t nobody")
		v.SetString(names[m.Intn(len(names))])
	case reflect.Int64:
		edges := []int64{0, 1, -1, -200, -201, 200, 201, 6000, 6001, 10000, 10001, 100000, 100001, 1e9, 1e9 + 1, math.MinInt64, math.MaxInt64}
		v.SetInt(edges[m.Intn(len(edges))])
	case reflect.Int:
		v.SetInt(int64(m.Intn(2000) - 1000))
	case reflect.Slice:
		m.shuffle(v)
	}
}

// shuffle takes one from a list, puts one in once more, or swaps two.
func (m maker) shuffle(v reflect.Value) {
	if v.Len() == 0 {
		v.Set(reflect.MakeSlice(v.Type(), 1, 1))
		return
	}
	i, j := m.Intn(v.Len()), m.Intn(v.Len())
	room := reflect.MakeSlice(v.Type(), 0, v.Len()+1)
	switch m.Intn(4) {
	case 0:
		v.Set(reflect.AppendSlice(reflect.AppendSlice(room, v.Slice(0, i)), v.Slice(i+1, v.Len())))
	case 1:
		v.Set(reflect.Append(reflect.AppendSlice(room, v), v.Index(i)))
	default:
		reflect.Swapper(v.Interface())(i, j)
	}
}

func valuesIn(v reflect.Value, l *[]reflect.Value) {
	*l = append(*l, v)
	switch v.Kind() {
	case reflect.Struct:
		for i := range v.NumField() {
			valuesIn(v.Field(i), l)
		}
	case reflect.Slice:
		for i := range v.Len() {
			valuesIn(v.Index(i), l)
		}
	}
}

// Promise 7.2: networks of which some things are changed by chance, and some are wrong.
func TestAnyNetwork(t *testing.T) {
	m := maker{rand.New(rand.NewSource(7))}
	l := slips()
	many := map[api.Errno]int{}
	for i := range 12_000 {
		n := read(t, []string{all, all, bare}[i%3])
		for range m.Intn(6) {
			m.touch(&n)
		}
		if m.Intn(4) == 0 {
			l[m.Intn(len(l))].put(&n)
		}
		hold(t, n)
		e, _ := Check(n)
		many[e]++
	}
	for _, e := range []api.Errno{api.OK, api.ErrLong, api.ErrRange, api.ErrTwice, api.ErrName, api.ErrEmpty, api.ErrRing, api.ErrFoe, api.ErrArtery} {
		if many[e] < 20 {
			t.Errorf("error %d was told %d times", e, many[e])
		}
	}
}

// Promise 7.1: of networks changed by chance, the places are those that a plain search tells.
func TestAnyPlaces(t *testing.T) {
	m := maker{rand.New(rand.NewSource(71))}
	for range 2000 {
		n := read(t, all)
		for range m.Intn(12) {
			m.touch(&n)
		}
		for _, name := range append(strings.Fields("a b c n s e w x v u o p q r t nobody"), "") {
			if i, want := Node(n, name), slices.Index(nodesOf(n), name); i != want {
				t.Fatalf("Node(%v, %q): %d; want %d", n, name, i, want)
			}
			for _, x := range n.Nodes {
				home := -1
				for i := len(x.Phases) - 1; i >= 0; i-- {
					if slices.Contains(x.Phases[i].Heads, name) {
						home = i
					}
				}
				want := [3]int{slices.Index(headsOf(x), name), slices.Index(phasesOf(x), name), home}
				if got := [3]int{Head(x, name), Phase(x, name), Home(x, name)}; got != want {
					t.Fatalf("%q of %v: %v; want %v", name, x, got, want)
				}
			}
		}
	}
}
