package show

import (
	"bytes"
	"math"
	"math/rand"
	"reflect"
	"slices"
	"strings"
	"testing"

	"carrefour/api"
	"carrefour/lex"
	"carrefour/net"
)

const greatestNumber = 999_999_999_999_999_999

// example is the chapter's text.
const example = `cycle 600 to 900 by 10;
peak 1/1;
node a {
  head n volume 400 flow 1800 use 1/1 speed 1500 grade -20 width 1800 length 600 green 70;
  walk w with p long 1500 pace 120 least 70;
  phase p: n, e;
  group {
    ring free p, q;
  }
  foe n e;
}
artery {
  stop a out n in e ahead 0 back 0;
  weights 2 1;
}
`

func exampleNet() api.Net {
	return api.Net{
		Min: 600, Max: 900, Step: 10, Peak: api.Frac{Num: 1, Den: 1},
		Nodes: []api.Node{{
			Name:   "a",
			Heads:  []api.Head{{Name: "n", Volume: 400, Sat: 1800, Use: api.Frac{Num: 1, Den: 1}, Speed: 1500, Grade: -20, Width: 1800, Length: 600, Green: 70}},
			Peds:   []api.Ped{{Name: "w", Phase: "p", Long: 1500, Pace: 120, Walk: 70}},
			Phases: []api.Phase{{Name: "p", Heads: []string{"n", "e"}}},
			Groups: []api.Group{{Rings: []api.Row{{Free: true, Phases: []string{"p", "q"}}}}},
			Foes:   []api.Foe{{A: "n", B: "e"}},
		}},
		Stops: []api.Stop{{Node: "a", Out: "n", In: "e"}},
		WOut:  2, WIn: 1,
	}
}

// all tells a network with all its parts, more than one of each where there may be more, and no two numbers or names the same.
func all() api.Net {
	return api.Net{
		Min: 601, Max: 1202, Step: 13, Peak: api.Frac{Num: 92, Den: 100},
		Nodes: []api.Node{{
			Name: "a",
			Heads: []api.Head{
				{Name: "n", Volume: 400, Sat: 1800, Use: api.Frac{Num: 2, Den: 4}, Speed: 1500, Grade: -20, Width: 1810, Length: 620, Green: 70},
				{Name: "e", Volume: 300, Sat: 1700, Use: api.Frac{Num: 21, Den: 27}, Speed: 1100, Grade: 3, Width: 2000, Length: 610, Green: 50},
			},
			Peds: []api.Ped{
				{Name: "w", Phase: "p1", Long: 1511, Pace: 120, Walk: 71},
				{Name: "v", Phase: "p2", Long: 1400, Pace: 110, Walk: 72},
			},
			Phases: []api.Phase{
				{Name: "p1", Heads: []string{"n1"}},
				{Name: "p2", Heads: []string{"e2", "n2", "s2"}},
			},
			Groups: []api.Group{
				{Rings: []api.Row{{Free: true, Phases: []string{"p3", "p4"}}, {Phases: []string{"p5"}}}},
				{Rings: []api.Row{{Phases: []string{"p6", "p7"}}}},
			},
			Foes: []api.Foe{{A: "n3", B: "e3"}, {A: "e4", B: "n4"}},
		}, {Name: "b"}},
		Stops: []api.Stop{
			{Node: "a1", Out: "n5", In: "e5", Ahead: 31, Back: 32},
			{Node: "b1", Out: "e6", In: "n6", Ahead: 33, Back: 34},
		},
		WOut: 5, WIn: 6,
	}
}

const allText = `cycle 601 to 1202 by 13;
peak 92/100;
node a {
  head n volume 400 flow 1800 use 2/4 speed 1500 grade -20 width 1810 length 620 green 70;
  head e volume 300 flow 1700 use 21/27 speed 1100 grade 3 width 2000 length 610 green 50;
  walk w with p1 long 1511 pace 120 least 71;
  walk v with p2 long 1400 pace 110 least 72;
  phase p1: n1;
  phase p2: e2, n2, s2;
  group {
    ring free p3, p4;
    ring p5;
  }
  group {
    ring p6, p7;
  }
  foe n3 e3;
  foe e4 n4;
}
node b {
}
artery {
  stop a1 out n5 in e5 ahead 31 back 32;
  stop b1 out e6 in n6 ahead 33 back 34;
  weights 5 6;
}
`

func isShown(t *testing.T, n api.Net, want string) {
	t.Helper()
	if got := shown(t, n); got != want {
		t.Errorf("Show(%v):\n%s; want\n%s", n, got, want)
	}
	hold(t, n)
}

// Promise 6.1: the chapter's example, byte by byte.
func TestExample(t *testing.T) {
	isShown(t, exampleNet(), example)
}

// Promise 6.1: all parts, and more than one of each.
func TestAll(t *testing.T) {
	isShown(t, all(), allText)
}

// Promise 6.1: a network of nothing, with and without nodes.
func TestNothing(t *testing.T) {
	isShown(t, api.Net{}, "cycle 0 to 0 by 0;\npeak 0/0;\n")
	isShown(t, api.Net{Nodes: []api.Node{}, Stops: []api.Stop{}}, "cycle 0 to 0 by 0;\npeak 0/0;\n")
	refused(t, api.Net{Nodes: []api.Node{{}}})
	refused(t, api.Net{Stops: []api.Stop{{}}})
	isShown(t, api.Net{Nodes: []api.Node{{Name: "a"}}}, "cycle 0 to 0 by 0;\npeak 0/0;\nnode a {\n}\n")
	empty := api.Node{Name: "a", Heads: []api.Head{}, Peds: []api.Ped{}, Phases: []api.Phase{}, Groups: []api.Group{}, Foes: []api.Foe{}}
	isShown(t, api.Net{Nodes: []api.Node{empty, {Name: "a"}}}, "cycle 0 to 0 by 0;\npeak 0/0;\nnode a {\n}\nnode a {\n}\n")
}

// Promise 6.1: none of the parts that may be left out; and each of them alone.
func TestBare(t *testing.T) {
	full := all().Nodes[0]
	const before, behind = "cycle 1 to 2 by 3;\npeak 4/5;\nnode a {\n", "}\n"
	for _, c := range []struct {
		node api.Node
		text string
	}{
		{api.Node{}, ""},
		{api.Node{Heads: full.Heads[1:]}, "  head e volume 300 flow 1700 use 21/27 speed 1100 grade 3 width 2000 length 610 green 50;\n"},
		{api.Node{Peds: full.Peds[:1]}, "  walk w with p1 long 1511 pace 120 least 71;\n"},
		{api.Node{Phases: full.Phases[:1]}, "  phase p1: n1;\n"},
		{api.Node{Groups: full.Groups[1:]}, "  group {\n    ring p6, p7;\n  }\n"},
		{api.Node{Foes: full.Foes[:1]}, "  foe n3 e3;\n"},
	} {
		c.node.Name = "a"
		isShown(t, api.Net{Min: 1, Max: 2, Step: 3, Peak: api.Frac{Num: 4, Den: 5}, Nodes: []api.Node{c.node}}, before+c.text+behind)
	}
}

// Promise 6.1: whatever may be shown need not make sense.
func TestNoSense(t *testing.T) {
	n := api.Net{
		Min: 9, Max: 1, Nodes: []api.Node{{
			Name:   "a",
			Peds:   []api.Ped{{Name: "a", Phase: "a"}, {Name: "a", Phase: "a"}},
			Phases: []api.Phase{{Name: "a", Heads: []string{"a", "a"}}},
			Groups: []api.Group{{Rings: []api.Row{{Phases: []string{"a"}}, {Phases: []string{"a"}}}}},
			Foes:   []api.Foe{{A: "a", B: "a"}},
		}},
	}
	isShown(t, n, "cycle 9 to 1 by 0;\npeak 0/0;\nnode a {\n  walk a with a long 0 pace 0 least 0;\n  walk a with a long 0 pace 0 least 0;\n  phase a: a, a;\n  group {\n    ring a;\n    ring a;\n  }\n  foe a a;\n}\n")
}

// eachPart puts a value at each part of a kind, in a network of its own.
func eachPart(n api.Net, kind reflect.Kind, put func(name string, v reflect.Value, whole *api.Net)) int {
	many := 0
	for i := range partsOf(&n) {
		m := copyOf(n)
		if p := partsOf(&m)[i]; p.value.Kind() == kind {
			put(p.name, p.value, &m)
			many++
		}
	}
	return many
}

// Promise 6.1: each name that is none, at each place of a name.
func TestWrongNames(t *testing.T) {
	wrong := append(strings.Fields(reserved),
		"", " ", "\n", "7", "0", "600", "1a", "_", "_a", "A", "Aa", "aA", "aZb",
		"{", "}", ",", ";", ":", "/", "-", "a-b", "-a", "a,b", "a;", "a:", "a/b", "a{", "a}",
		"a b", " a", "a ", "a\n", "\na", "a\t", "\ra", "a#", "a#b", "#a", "#", "# b\na", "a;\nfoe b c",
		"a.b", "a!", "a'", "a\"", "a`", "a@", "a[", "a~", "a\x00", "\x00", "\x00a", "a\x7f", "a\x80", "\xff", "a\xff", "é", "aé", "ａ", "a\u00a0",
		strings.Repeat("a", api.MaxName+1), "a"+strings.Repeat("1", api.MaxName), strings.Repeat("_", api.MaxName+1),
		strings.Repeat("1", api.MaxDigits), strings.Repeat("1", api.MaxDigits+1),
		strings.Repeat("a", api.MaxText), strings.Repeat("a", api.MaxText+1), "a"+strings.Repeat(" ", api.MaxText+1),
	)
	for _, s := range wrong {
		many := eachPart(all(), reflect.String, func(name string, v reflect.Value, n *api.Net) {
			v.SetString(s)
			if hasText(*n) {
				t.Fatalf("%q at %s has a text", s, name)
			}
			refused(t, *n)
		})
		if many != 29 {
			t.Fatal("names:", many)
		}
	}
}

// Promise 6.1: each byte, alone, within a name and at its end.
func TestBytes(t *testing.T) {
	for c := range 256 {
		for _, s := range []string{string([]byte{byte(c)}), string([]byte{'x', byte(c)}), string([]byte{'x', byte(c), 'y'}), string([]byte{byte(c), 'x'})} {
			n := exampleNet()
			n.Nodes[0].Foes[0].B = s
			hold(t, n)
			small := c >= 'a' && c <= 'z'
			begins := s[0] == 'x' || small
			if goesOn := small || c >= '0' && c <= '9' || c == '_'; Right(n) != (begins && goesOn) {
				t.Fatalf("%q: %t", s, Right(n))
			}
		}
	}
}

// Promise 6.1: each name that is one, at each place of a name.
func TestRightNames(t *testing.T) {
	right := []string{"a", "z", "q", "a_", "a0", "z9_", "a__", "x1y2", "cycles", "fo", "foes", "in_", "no1", "nodes", "weight", "t", "end", "true", "nil",
		strings.Repeat("a", api.MaxName), "z" + strings.Repeat("_", api.MaxName-1), "z" + strings.Repeat("9", api.MaxName-1)}
	for _, w := range strings.Fields(reserved) {
		right = append(right, w+"_", "x"+w)
	}
	for _, s := range right {
		eachPart(all(), reflect.String, func(name string, v reflect.Value, n *api.Net) {
			v.SetString(s)
			shown(t, *n)
			hold(t, *n)
		})
	}
}

// Promise 6.1: each number, at each edge.
func TestNumbers(t *testing.T) {
	const most = greatestNumber
	tries := []int64{0, 1, 9, 10, 6000, most - 1, most, most + 1, most + 2, math.MaxInt64 - 1, math.MaxInt64,
		-1, -10, -most + 1, -most, -most - 1, -most - 2, math.MinInt64 + 1, math.MinInt64}
	for _, x := range tries {
		many := eachPart(all(), reflect.Int64, func(name string, v reflect.Value, n *api.Net) {
			v.SetInt(x)
			if right := x <= most && (x >= 0 || name == "Head.Grade" && x >= -most); right != Right(*n) {
				t.Fatalf("%d at %s: Right %t; want %t", x, name, Right(*n), right)
			}
			hold(t, *n)
		})
		if many != 35 {
			t.Fatal("numbers:", many)
		}
	}
}

// Promise 6.1: a grade has its sign, close to its number.
func TestGrade(t *testing.T) {
	for x, want := range map[int64]string{
		0: "0", 1: "1", -1: "-1", 200: "200", -200: "-200",
		greatestNumber: "999999999999999999", -greatestNumber: "-999999999999999999",
	} {
		n := exampleNet()
		n.Nodes[0].Heads[0].Grade = x
		isShown(t, n, strings.Replace(example, "grade -20", "grade "+want, 1))
	}
	for _, x := range []int64{greatestNumber + 1, -greatestNumber - 1, math.MaxInt64, math.MinInt64, math.MinInt64 + 1} {
		n := exampleNet()
		n.Nodes[0].Heads[0].Grade = x
		refused(t, n)
	}
}

// Promise 6.1: a Use and a Peak stay as they are, in lowest terms or not.
func TestFractions(t *testing.T) {
	for f, want := range map[api.Frac]string{
		{Num: 6, Den: 4}: "6/4", {Num: 4, Den: 6}: "4/6", {Num: 0, Den: 9}: "0/9", {Num: 9, Den: 0}: "9/0", {Num: 0, Den: 0}: "0/0",
		{Num: 100, Den: 100}: "100/100", {Num: 3, Den: 1}: "3/1", {Num: greatestNumber, Den: greatestNumber}: "999999999999999999/999999999999999999",
	} {
		n := exampleNet()
		n.Peak = f
		isShown(t, n, strings.Replace(example, "peak 1/1", "peak "+want, 1))
		n = exampleNet()
		n.Nodes[0].Heads[0].Use = f
		isShown(t, n, strings.Replace(example, "use 1/1", "use "+want, 1))
	}
	for _, f := range []api.Frac{{Num: -1, Den: 1}, {Num: 1, Den: -1}, {Num: -1, Den: -1}, {Num: greatestNumber + 1, Den: 1}, {Num: 1, Den: greatestNumber + 1}} {
		n := exampleNet()
		n.Peak = f
		refused(t, n)
		n = exampleNet()
		n.Nodes[0].Heads[0].Use = f
		refused(t, n)
	}
}

// many tells so many of one thing.
func many[T any](x T, n int) []T { return slices.Repeat([]T{x}, n) }

// Promise 6.1: as many of everything as there may be, one more, and as few as there may be.
func TestCounts(t *testing.T) {
	for _, c := range []struct {
		name        string
		least, most int
		put         func(n *api.Net, many int)
	}{
		{"nodes", 0, api.MaxNodes, func(n *api.Net, k int) { n.Nodes = many(n.Nodes[1], k) }},
		{"stops", 0, api.MaxNodes, func(n *api.Net, k int) { n.Stops = many(n.Stops[1], k) }},
		{"heads", 0, api.MaxHeads, func(n *api.Net, k int) { n.Nodes[0].Heads = many(n.Nodes[0].Heads[1], k) }},
		{"walks", 0, api.MaxPeds, func(n *api.Net, k int) { n.Nodes[0].Peds = many(n.Nodes[0].Peds[1], k) }},
		{"phases", 0, api.MaxHeads, func(n *api.Net, k int) { n.Nodes[0].Phases = many(n.Nodes[0].Phases[1], k) }},
		{"groups", 0, api.MaxGroups, func(n *api.Net, k int) { n.Nodes[0].Groups = many(n.Nodes[0].Groups[1], k) }},
		{"foes", 0, api.MaxFoes, func(n *api.Net, k int) { n.Nodes[0].Foes = many(n.Nodes[0].Foes[1], k) }},
		{"a phase's heads", 1, api.MaxHeads, func(n *api.Net, k int) { n.Nodes[0].Phases[1].Heads = many("h", k) }},
		{"a group's rings", 1, api.MaxRings, func(n *api.Net, k int) { n.Nodes[0].Groups[1].Rings = many(n.Nodes[0].Groups[1].Rings[0], k) }},
		{"a ring's phases", 1, api.MaxRow, func(n *api.Net, k int) { n.Nodes[0].Groups[1].Rings[0].Phases = many("h", k) }},
		{"a free ring's phases", 1, api.MaxRow, func(n *api.Net, k int) { n.Nodes[0].Groups[0].Rings[0].Phases = many("h", k) }},
		{"another ring's phases", 1, api.MaxRow, func(n *api.Net, k int) { n.Nodes[0].Groups[0].Rings[1].Phases = many("h", k) }},
	} {
		for k := range 2*c.most + 3 {
			n := all()
			c.put(&n, k)
			if want := k >= c.least && k <= c.most; Right(n) != want {
				t.Fatalf("%d %s: Right %t", k, c.name, !want)
			}
			hold(t, n)
		}
		n := all()
		c.put(&n, 100_000)
		refused(t, n)
	}
}

// Promise 6.1: a phase without heads, a group without rings, a ring without phases, nil or of length 0.
func TestEmpty(t *testing.T) {
	for _, wrong := range []func(*api.Node){
		func(x *api.Node) { x.Phases[0].Heads = nil },
		func(x *api.Node) { x.Phases[1].Heads = []string{} },
		func(x *api.Node) { x.Groups[0].Rings = nil },
		func(x *api.Node) { x.Groups[1].Rings = []api.Row{} },
		func(x *api.Node) { x.Groups[0].Rings[0].Phases = nil },
		func(x *api.Node) { x.Groups[0].Rings[1].Phases = []string{} },
		func(x *api.Node) { x.Groups[0].Rings[1] = api.Row{Free: true} },
		func(x *api.Node) { x.Groups = append(x.Groups, api.Group{}) },
		func(x *api.Node) { x.Phases = append(x.Phases, api.Phase{Name: "p9"}) },
		func(x *api.Node) { x.Phases[1].Heads[2] = "" },
	} {
		n := all()
		wrong(&n.Nodes[0])
		refused(t, n)
		n = all()
		n.Nodes[1] = all().Nodes[0]
		hold(t, n)
		wrong(&n.Nodes[1])
		refused(t, n)
	}
}

// Promise 6.1: an artery is shown, if there are stops or a weight is not 0.
func TestArtery(t *testing.T) {
	const before = "cycle 0 to 0 by 0;\npeak 0/0;\n"
	const stop = "  stop a out n in e ahead 0 back 0;\n"
	stops := exampleNet().Stops
	for _, c := range []struct {
		n    api.Net
		text string
	}{
		{api.Net{}, ""},
		{api.Net{Stops: stops[:0]}, ""},
		{api.Net{Stops: stops}, "artery {\n" + stop + "  weights 0 0;\n}\n"},
		{api.Net{WOut: 7}, "artery {\n  weights 7 0;\n}\n"},
		{api.Net{WIn: 8}, "artery {\n  weights 0 8;\n}\n"},
		{api.Net{WOut: 7, WIn: 8}, "artery {\n  weights 7 8;\n}\n"},
		{api.Net{Stops: stops, WIn: 8}, "artery {\n" + stop + "  weights 0 8;\n}\n"},
		{api.Net{Stops: stops, WOut: 7, WIn: 8}, "artery {\n" + stop + "  weights 7 8;\n}\n"},
		{api.Net{Stops: many(stops[0], 2)}, "artery {\n" + stop + stop + "  weights 0 0;\n}\n"},
	} {
		isShown(t, c.n, before+c.text)
		c.n.Nodes = []api.Node{{Name: "b"}}
		isShown(t, c.n, before+"node b {\n}\n"+c.text)
	}
	for _, w := range []int64{-1, math.MinInt64, math.MaxInt64} {
		refused(t, api.Net{WOut: w})
		refused(t, api.Net{WIn: w})
		refused(t, api.Net{WOut: w, WIn: -w})
	}
}

// Promise 6.1: a ring is free, or is not, each by itself.
func TestFree(t *testing.T) {
	for i := range 16 {
		n := exampleNet()
		rings := make([]api.Row, 4)
		lines := make([]string, 4)
		for j := range rings {
			rings[j] = api.Row{Free: i>>j&1 == 1, Phases: []string{"p", "q"}[:j%2+1]}
			lines[j] = "    ring " + []string{"", "free "}[i>>j&1] + []string{"p", "p, q"}[j%2] + ";\n"
		}
		n.Nodes[0].Groups = []api.Group{{Rings: rings[:2]}, {Rings: rings[2:]}}
		groups := "  group {\n" + lines[0] + lines[1] + "  }\n  group {\n" + lines[2] + lines[3] + "  }\n"
		isShown(t, n, strings.Replace(example, "  group {\n    ring free p, q;\n  }\n", groups, 1))
	}
}

// Promise 6.1: where things stand is not shown, whatever it is.
func TestPlaces(t *testing.T) {
	for _, c := range [][2]int{{1, 1}, {-1, -1}, {math.MaxInt, 0}, {math.MinInt, 0}, {math.MinInt, 1}, {api.MaxText, 1000}} {
		n := withPlaces(all(), c[0], c[1])
		isShown(t, n, allText)
		n.Step = -1
		refused(t, n)
	}
}

// Promise 6.1: lines and their blanks.
func TestLines(t *testing.T) {
	for _, n := range []api.Net{{}, exampleNet(), all(), widest()} {
		text := shown(t, n)
		if !strings.HasSuffix(text, "\n") || strings.ContainsAny(text, "\t\r#") {
			t.Fatalf("%q", text)
		}
		open := 0
		for _, line := range strings.Split(strings.TrimSuffix(text, "\n"), "\n") {
			words := strings.TrimLeft(line, " ")
			if words == "}" {
				open--
			}
			if len(line)-len(words) != 2*open || words == "" || strings.Contains(words, "  ") || strings.HasSuffix(words, " ") {
				t.Fatalf("%q: %d braces are open", line, open)
			}
			for _, s := range []string{" ,", " ;", " :", " /", "/ ", "- "} {
				if strings.Contains(words, s) {
					t.Fatalf("%q: %q", line, s)
				}
			}
			l, e, _ := lex.Tokens([]byte(words))
			if ends := l[len(l)-2].Text; e != api.OK || !strings.Contains("{};", ends) {
				t.Fatalf("%q", line)
			}
			open += strings.Count(words, "{")
		}
		if open != 0 {
			t.Fatalf("%d braces are open at the end", open)
		}
	}
}

// widest tells a network with as much of everything as there may be, each name and each number as long as may be.
func widest() api.Net {
	const most = greatestNumber
	name := strings.Repeat("w", api.MaxName)
	whole := api.Frac{Num: most, Den: most}
	ring := api.Row{Free: true, Phases: many(name, api.MaxRow)}
	node := api.Node{
		Name:   name,
		Heads:  many(api.Head{Name: name, Volume: most, Sat: most, Use: whole, Speed: most, Grade: -most, Width: most, Length: most, Green: most}, api.MaxHeads),
		Peds:   many(api.Ped{Name: name, Phase: name, Long: most, Pace: most, Walk: most}, api.MaxPeds),
		Phases: many(api.Phase{Name: name, Heads: many(name, api.MaxHeads)}, api.MaxHeads),
		Groups: many(api.Group{Rings: many(ring, api.MaxRings)}, api.MaxGroups),
		Foes:   many(api.Foe{A: name, B: name}, api.MaxFoes),
	}
	return api.Net{
		Min: most, Max: most, Step: most, Peak: whole,
		Nodes: many(node, api.MaxNodes),
		Stops: many(api.Stop{Node: name, Out: name, In: name, Ahead: most, Back: most}, api.MaxNodes),
		WOut:  most, WIn: most,
	}
}

// Promises 6.1 and 6.2: a text may be too long to be read; it is shown all the same.
func TestTooLong(t *testing.T) {
	n := widest()
	if text := shown(t, n); len(text) <= api.MaxText || text != textOf(n) {
		t.Fatal("a text of", len(text))
	}
	hold(t, n)
	n.Nodes[3].Foes = append(n.Nodes[3].Foes, n.Nodes[3].Foes[0])
	refused(t, n)
	// Names are cut till the text is just as long as may be.
	n = copyOf(widest())
	for i := range n.Nodes {
		x := &n.Nodes[i]
		x.Heads, x.Peds, x.Phases, x.Groups = x.Heads[:8], nil, nil, nil
	}
	over := len(textOf(n)) - api.MaxText
	for i := range n.Nodes {
		for j := range n.Nodes[i].Foes {
			cut := min(over, api.MaxName-1)
			f := &n.Nodes[i].Foes[j]
			f.A = f.A[cut:]
			over -= cut
		}
	}
	if text := shown(t, n); len(text) != api.MaxText {
		t.Fatal("a text of", len(text))
	}
	hold(t, n)
	n.Nodes[0].Foes[0].A += "w"
	if text := shown(t, n); len(text) != api.MaxText+1 {
		t.Fatal("a text of", len(text))
	}
	hold(t, n)
}

// maker makes networks of which nearly all fields are right.
type maker struct {
	*rand.Rand
	wrong int // one of so many fields is wrong
}

func (m maker) name() string {
	if m.Intn(m.wrong) == 0 {
		return []string{"", "free", "7", "a b", "A", strings.Repeat("a", 25), "a-"}[m.Intn(7)]
	}
	s := []byte{byte('a' + m.Intn(26))}
	for range m.Intn(24) {
		s = append(s, "abcxyz0189_"[m.Intn(11)])
	}
	if strings.Contains(" "+reserved+" ", " "+string(s)+" ") {
		return "q"
	}
	return string(s)
}

func (m maker) number() int64 {
	if m.Intn(m.wrong) == 0 {
		return []int64{-1, math.MinInt64, math.MaxInt64, greatestNumber + 1}[m.Intn(4)]
	}
	x := m.Int63n(greatestNumber + 1)
	for range m.Intn(19) {
		x /= 10
	}
	return x
}

func (m maker) fill(p part) {
	v := p.value
	switch v.Kind() {
	case reflect.String:
		v.SetString(m.name())
	case reflect.Int64:
		x := m.number()
		if p.name == "Head.Grade" && m.Intn(2) == 0 {
			x = -x
		}
		v.SetInt(x)
	case reflect.Int:
		v.SetInt(int64(m.Int()))
	case reflect.Bool:
		v.SetBool(m.Intn(2) == 0)
	case reflect.Slice:
		c := counts[p.name]
		k := c[0] + m.Intn(min(c[1]-c[0]+1, 5))
		if m.Intn(m.wrong) == 0 {
			k = []int{0, c[1], c[1] + 1}[m.Intn(3)]
		}
		v.Set(reflect.MakeSlice(v.Type(), k, k))
		for i := range k {
			m.fill(part{p.name + "[]", v.Index(i)})
		}
	case reflect.Struct:
		for i := range v.NumField() {
			m.fill(part{v.Type().Name() + "." + v.Type().Field(i).Name, v.Field(i)})
		}
	}
}

// Promises 6.1 and 6.2: what is shown is read as that network, and shown the same again; what has no text is refused.
func TestAnyNetwork(t *testing.T) {
	m := maker{rand.New(rand.NewSource(6)), 1}
	right, wrong := 0, 0
	for i := range 3000 {
		m.wrong = []int{1 << 40, 4000, 300}[i%3]
		var n api.Net
		m.fill(part{"", reflect.ValueOf(&n).Elem()})
		hold(t, n)
		if Right(n) {
			right++
		} else {
			wrong++
		}
	}
	if right < 1000 || wrong < 300 {
		t.Fatal("right:", right, "wrong:", wrong)
	}
}

// Promise 6.2: texts in other forms are shown in this one, and read the same.
func TestOtherForms(t *testing.T) {
	l, e, _ := lex.Tokens([]byte(allText))
	if e != api.OK {
		t.Fatal(e)
	}
	for _, text := range []string{
		lex.Spell(l),
		strings.ReplaceAll(lex.Spell(l), " ", "\n"),
		strings.ReplaceAll(lex.Spell(l), " ", " # so\n\t"),
		strings.ReplaceAll(allText, " 400 ", " 000400 "),
	} {
		n, e, at := net.Parse([]byte(text))
		if e != api.OK {
			t.Fatalf("%q: error %d at %d", text, e, at)
		}
		isShown(t, n, allText)
	}
}

// Rules R3 and R4: what is handed in is left as it was, behind the end of each list too; lists that are empty are the same as none.
func TestLeftAsItWas(t *testing.T) {
	n := copyOf(all())
	behind := func() []any {
		var l []any
		for _, p := range partsOf(&n) {
			if p.value.Kind() == reflect.Slice {
				for i := range p.value.Cap() - p.value.Len() {
					l = append(l, p.value.Slice(0, p.value.Cap()).Index(p.value.Len()+i).Interface())
				}
			}
		}
		return l
	}
	for _, p := range partsOf(&n) {
		if p.value.Kind() == reflect.Slice && p.value.Type().Elem().Kind() == reflect.String {
			room := p.value.Slice(0, p.value.Cap())
			for i := range p.value.Cap() - p.value.Len() {
				room.Index(p.value.Len() + i).SetString("behind")
			}
		}
	}
	before := behind()
	for _, step := range []int64{13, -1} {
		n.Step = step
		kept := copyOf(n)
		Right(n)
		Show(n)
		if !reflect.DeepEqual(n, kept) || !reflect.DeepEqual(behind(), before) {
			t.Fatal("a network is changed")
		}
	}
	n = all()
	n.Nodes[1] = api.Node{Name: "b", Heads: []api.Head{}, Peds: []api.Ped{}, Phases: []api.Phase{}, Groups: []api.Group{}, Foes: []api.Foe{}}
	isShown(t, n, allText)
}

// Rules R4 and R5: a text is new memory, and each call tells the same.
func TestNewMemory(t *testing.T) {
	n := all()
	first, _ := Show(n)
	second, _ := Show(n)
	clear(first[:cap(first)])
	if string(second) != allText || shown(t, n) != allText {
		t.Error("two texts share memory")
	}
	n.Nodes[0].Phases[1].Heads[0] = "changed"
	n.Nodes[0].Heads[0].Volume = 1
	if string(second) != allText || bytes.Contains(second, []byte("changed")) {
		t.Error("a text keeps its network")
	}
}
