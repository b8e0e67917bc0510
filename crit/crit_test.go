package crit

import (
	"math"
	"math/rand"
	"reflect"
	"slices"
	"strings"
	"testing"

	"carrefour/api"
	"carrefour/frac"
	"carrefour/need"
	"carrefour/net"
	"carrefour/valid"
)

const (
	lowest  = math.MinInt64
	highest = math.MaxInt64
)

func fr(n, d int64) api.Frac { return api.Frac{Num: n, Den: d} }

// ring tells a ring of phases that are told by letters; free ones stand behind a star.
func ring(letters string) api.Row {
	phases, free := strings.CutPrefix(letters, "*")
	return api.Row{Free: free, Phases: strings.Split(phases, "")}
}

// group tells a group of rings that are told by letters, with a blank between two; "" is a group without a ring, "." a ring without a phase.
func group(rings string) api.Group {
	var g api.Group
	for _, s := range strings.Fields(rings) {
		if s == "." {
			g.Rings = append(g.Rings, api.Row{})
		} else {
			g.Rings = append(g.Rings, ring(s))
		}
	}
	return g
}

// crossing is a node whose phases are told by letters.
func crossing(phases string, groups ...string) api.Node {
	var x api.Node
	for _, s := range strings.Split(phases, "") {
		x.Phases = append(x.Phases, api.Phase{Name: s})
	}
	for _, s := range groups {
		x.Groups = append(x.Groups, group(s))
	}
	return x
}

func same(a, b api.Critical) bool { return a.Sum == b.Sum && slices.Equal(a.Rings, b.Rings) }

// row is a node and its ratios, with the sum, the rings and the places that the chapter has for them.
type row struct {
	x      api.Node
	ratios []api.Frac
	sum    api.Frac
	rings  []int
	places []int
}

func (r row) hold(t *testing.T) {
	t.Helper()
	if got, e := Sum(r.x, r.ratios); e != api.OK || !same(got, api.Critical{Sum: r.sum, Rings: r.rings}) {
		t.Errorf("%v %v: %v, %d; want %v %v", r.x, r.ratios, got, e, r.sum, r.rings)
	}
	if got := Rank(r.x, r.ratios); !slices.Equal(got, r.places) {
		t.Errorf("%v %v: places %v; want %v", r.x, r.ratios, got, r.places)
	}
	holdWays(t, r.x, r.ratios)
}

// refused holds that there is an error, and nothing beside it.
func refused(t *testing.T, e api.Errno, x api.Node, ratios ...api.Frac) {
	t.Helper()
	if got, err := Sum(x, ratios); err != e || got.Sum != fr(0, 0) || len(got.Rings) != 0 {
		t.Errorf("%v %v: %v, %d; want nothing, %d", x, ratios, got, err, e)
	}
	if got := Rank(x, ratios); len(got) != 0 {
		t.Errorf("%v %v: places %v; want none", x, ratios, got)
	}
	holdWays(t, x, ratios)
}

// Promises 11.1 and 11.2: the example of the chapter, and of the document.
func TestExample(t *testing.T) {
	x := crossing("abcd", "ab c", "d")
	ratios := []api.Frac{fr(1, 4), fr(1, 5), fr(2, 5), fr(1, 10)}
	row{x, ratios, fr(11, 20), []int{0, 0}, []int{0, 1, 3}}.hold(t)
	first := crossing("abcd", "ab c")
	row{first, ratios, fr(9, 20), []int{0}, []int{0, 1}}.hold(t)
}

// Promise 11.1: groups of one ring, of two and of more; the greatest one may be any.
func TestGroups(t *testing.T) {
	ratios := []api.Frac{fr(1, 2), fr(1, 3), fr(1, 5), fr(1, 7), fr(2, 3), fr(1, 11)}
	for _, r := range []row{
		{crossing("abcdef", "a"), ratios, fr(1, 2), []int{0}, []int{0}},
		{crossing("abcdef", "abc"), ratios, fr(31, 30), []int{0}, []int{0, 1, 2}},
		{crossing("abcdef", "a", "b", "c"), ratios, fr(31, 30), []int{0, 0, 0}, []int{0, 1, 2}},
		{crossing("abcdef", "a b"), ratios, fr(1, 2), []int{0}, []int{0}},
		{crossing("abcdef", "b a"), ratios, fr(1, 2), []int{1}, []int{0}},
		{crossing("abcdef", "e ab"), ratios, fr(5, 6), []int{1}, []int{0, 1}},
		{crossing("abcdef", "e bc"), ratios, fr(2, 3), []int{0}, []int{4}},
		{crossing("abcdef", "b a e"), ratios, fr(2, 3), []int{2}, []int{4}},
		{crossing("abcdef", "b e a"), ratios, fr(2, 3), []int{1}, []int{4}},
		{crossing("abcdef", "e b a"), ratios, fr(2, 3), []int{0}, []int{4}},
		{crossing("abcdef", "f d c b a e"), ratios, fr(2, 3), []int{5}, []int{4}},
		{crossing("abcdef", "b a", "c d", "f e"), ratios, fr(41, 30), []int{1, 0, 1}, []int{0, 2, 4}},
		{crossing("abcdef", "f e", "d", "ab c"), ratios, fr(23, 14), []int{1, 0, 0}, []int{4, 3, 0, 1}},
	} {
		r.hold(t)
	}
}

// Promise 11.1: which rings are free does not matter, and heads, walks and foes do not.
func TestNothingElseMatters(t *testing.T) {
	ratios := []api.Frac{fr(1, 4), fr(1, 5), fr(2, 5), fr(1, 10)}
	x := crossing("abcd", "*ab c", "*d")
	row{x, ratios, fr(11, 20), []int{0, 0}, []int{0, 1, 3}}.hold(t)
	x = crossing("abcd", "*ab *c", "d")
	x.Name, x.Pos = "a", 7
	x.Heads = []api.Head{{Name: "a", Volume: 900, Sat: 1}, {Name: "c", Volume: highest}}
	x.Peds = []api.Ped{{Name: "a", Phase: "c", Walk: highest}}
	x.Foes = []api.Foe{{A: "a", B: "c"}, {A: "a", B: "d"}}
	x.Phases[2].Heads = []string{"a", "c"}
	row{x, ratios, fr(11, 20), []int{0, 0}, []int{0, 1, 3}}.hold(t)
}

// Promise 11.1: of two sums alike the first ring, however they come about.
func TestAlike(t *testing.T) {
	ratios := []api.Frac{fr(1, 2), fr(1, 3), fr(1, 6), fr(1, 2), fr(0, 1), fr(-1, 2)}
	for _, r := range []row{
		{crossing("abcdef", "a d"), ratios, fr(1, 2), []int{0}, []int{0}},
		{crossing("abcdef", "d a"), ratios, fr(1, 2), []int{0}, []int{3}},
		{crossing("abcdef", "bc a"), ratios, fr(1, 2), []int{0}, []int{1, 2}},
		{crossing("abcdef", "a bc"), ratios, fr(1, 2), []int{0}, []int{0}},
		{crossing("abcdef", "b bc d a"), ratios, fr(1, 2), []int{1}, []int{1, 2}},
		{crossing("abcdef", "a ea"), ratios, fr(1, 2), []int{0}, []int{0}},
		{crossing("abcdef", "ea a"), ratios, fr(1, 2), []int{0}, []int{4, 0}},
		{crossing("abcdef", "adf d a"), ratios, fr(1, 2), []int{0}, []int{0, 3, 5}},
		{crossing("abcdef", "e .", ". e"), ratios, fr(0, 1), []int{0, 0}, []int{4}},
		{crossing("abcdef", "f d a", "c a d"), ratios, fr(1, 1), []int{1, 1}, []int{3, 0}},
	} {
		r.hold(t)
	}
}

// Promise 11.1: as many ratios as there are phases, and others.
func TestAsManyRatios(t *testing.T) {
	x := crossing("abcd", "ab c", "d")
	ratios := []api.Frac{fr(1, 4), fr(1, 5), fr(2, 5), fr(1, 10), fr(1, 2), fr(1, 3)}
	for many := range len(ratios) + 1 {
		if many != len(x.Phases) {
			refused(t, api.ErrArg, x, ratios[:many]...)
		}
	}
	row{x, ratios[:4], fr(11, 20), []int{0, 0}, []int{0, 1, 3}}.hold(t)
	refused(t, api.ErrArg, x)
	x.Phases = nil // all that the rings name is not there
	row{x, nil, fr(0, 1), []int{0, 0}, nil}.hold(t)
	row{x, []api.Frac{}, fr(0, 1), []int{0, 0}, nil}.hold(t)
	refused(t, api.ErrArg, x, fr(1, 2))
}

// Promise 11.1: a node without groups has the sum of none, if its ratios are as many as its phases.
func TestNoGroups(t *testing.T) {
	row{api.Node{}, nil, fr(0, 1), nil, nil}.hold(t)
	row{crossing("ab"), []api.Frac{fr(1, 4), fr(1, 5)}, fr(0, 1), nil, nil}.hold(t)
	row{crossing("ab"), []api.Frac{fr(highest, 1), fr(highest, 1)}, fr(0, 1), nil, nil}.hold(t)
	refused(t, api.ErrArg, api.Node{}, fr(1, 4))
	refused(t, api.ErrArg, crossing("ab"), fr(1, 4))
	refused(t, api.ErrArg, crossing("ab"), fr(1, 4), fr(1, 5), fr(1, 6))
	refused(t, api.ErrArg, crossing("ab"))
}

// Promise 11.1, rule R2: a group without a ring, alone and among others; it comes ahead of what does not fit.
func TestNoRing(t *testing.T) {
	few := []api.Frac{fr(1, 4), fr(1, 5)}
	for _, groups := range [][]string{{""}, {"", "a"}, {"a", ""}, {"a", "", "b"}, {"", ""}, {"a b", "", "."}} {
		refused(t, api.ErrArg, crossing("ab", groups...), few...)
		refused(t, api.ErrArg, crossing("ab", groups...), few[0])
		refused(t, api.ErrArg, crossing("ab", groups...), fr(highest, 1), fr(highest, 1))
	}
	great := []api.Frac{fr(highest, 1), fr(1, 1)}
	refused(t, api.ErrOver, crossing("ab", "ab"), great...)
	refused(t, api.ErrArg, crossing("ab", "ab", ""), great...)
	refused(t, api.ErrArg, crossing("ab", "", "ab"), great...)
	refused(t, api.ErrArg, crossing("ab", "a", "b", ""), great...)
	refused(t, api.ErrArg, crossing("ab", "ab"), great[0])
	refused(t, api.ErrArg, crossing("ab", "ab"), append(great, fr(0, 1))...)
	none := crossing("ab")
	none.Groups = []api.Group{{Rings: []api.Row{}}}
	refused(t, api.ErrArg, none, few...)
}

// Promise 11.1: a ring without a phase has the sum of none; of ratios below 0 it is the greatest one.
func TestNoPhase(t *testing.T) {
	ratios := []api.Frac{fr(1, 4), fr(-1, 5)}
	for _, r := range []row{
		{crossing("ab", "."), ratios, fr(0, 1), []int{0}, nil},
		{crossing("ab", ". ."), ratios, fr(0, 1), []int{0}, nil},
		{crossing("ab", ". a"), ratios, fr(1, 4), []int{1}, []int{0}},
		{crossing("ab", "a ."), ratios, fr(1, 4), []int{0}, []int{0}},
		{crossing("ab", "b ."), ratios, fr(0, 1), []int{1}, nil},
		{crossing("ab", ". b"), ratios, fr(0, 1), []int{0}, nil},
		{crossing("ab", "b . a"), ratios, fr(1, 4), []int{2}, []int{0}},
		{crossing("ab", "b", ".", "a"), ratios, fr(1, 20), []int{0, 0, 0}, []int{1, 0}},
	} {
		r.hold(t)
	}
}

// Promise 11.1: ratios below 0 are added and held against one another as they are.
func TestBelowNought(t *testing.T) {
	ratios := []api.Frac{fr(-1, 2), fr(-1, 3), fr(1, 4), fr(-1, 5)}
	for _, r := range []row{
		{crossing("abcd", "a"), ratios, fr(-1, 2), []int{0}, []int{0}},
		{crossing("abcd", "a b"), ratios, fr(-1, 3), []int{1}, []int{1}},
		{crossing("abcd", "b a"), ratios, fr(-1, 3), []int{0}, []int{1}},
		{crossing("abcd", "ac d b"), ratios, fr(-1, 5), []int{1}, []int{3}},
		{crossing("abcd", "bc d"), ratios, fr(-1, 12), []int{0}, []int{1, 2}},
		{crossing("abcd", "a b", "d"), ratios, fr(-8, 15), []int{1, 0}, []int{1, 3}},
		{crossing("abcd", "ab", "c"), ratios, fr(-7, 12), []int{0, 0}, []int{0, 1, 2}},
	} {
		r.hold(t)
	}
	least := []api.Frac{fr(lowest, 1), fr(0, 1), fr(lowest+1, 1), fr(1, highest)}
	row{crossing("abcd", "a c"), least, fr(lowest+1, 1), []int{1}, []int{2}}.hold(t)
	row{crossing("abcd", "ab"), least, fr(lowest, 1), []int{0}, []int{0, 1}}.hold(t)
	refused(t, api.ErrOver, crossing("abcd", "ac"), least...)
	refused(t, api.ErrOver, crossing("abcd", "a", "c"), least...)
	refused(t, api.ErrOver, crossing("abcd", "ad"), least...)
}

// Promise 11.1: a ratio that is not right counts as 0/1, by layer 2; its phase is on the way all the same.
func TestNotRight(t *testing.T) {
	for _, wrong := range []api.Frac{fr(0, 0), fr(2, 4), fr(3, 0), fr(1, -2), fr(-1, -2), fr(0, 2), fr(-6, 3), fr(highest, highest), fr(lowest, lowest), fr(lowest, 2), fr(highest, 0), fr(highest, -1)} {
		if frac.Right(wrong) {
			t.Fatal(wrong, "is right")
		}
		ratios := []api.Frac{wrong, fr(1, 9), fr(-1, 9), fr(highest, 1)}
		for _, r := range []row{
			{crossing("abcd", "a"), ratios, fr(0, 1), []int{0}, []int{0}},
			{crossing("abcd", "a b"), ratios, fr(1, 9), []int{1}, []int{1}},
			{crossing("abcd", "b a"), ratios, fr(1, 9), []int{0}, []int{1}},
			{crossing("abcd", "c a"), ratios, fr(0, 1), []int{1}, []int{0}},
			{crossing("abcd", "ab b"), ratios, fr(1, 9), []int{0}, []int{0, 1}},
			{crossing("abcd", "b ab"), ratios, fr(1, 9), []int{0}, []int{1}},
			{crossing("abcd", "a", "b"), ratios, fr(1, 9), []int{0, 0}, []int{0, 1}},
			{crossing("abcd", "ada", "a"), ratios, fr(highest, 1), []int{0, 0}, []int{0, 3, 0, 0}},
		} {
			r.hold(t)
		}
	}
}

// Promise 11.1: a ring's sum that does not fit, in a ring that is not the greatest, too, and in any group.
func TestRingOver(t *testing.T) {
	ratios := []api.Frac{fr(1, 1<<62), fr(1, 1<<62-1), fr(5, 1), fr(0, 1)}
	for _, groups := range [][]string{{"ab"}, {"ba"}, {"ab c"}, {"c ab"}, {"d ab c"}, {"c d", "ab c"}, {"ab c", "c d"}, {"dab"}, {"abd"}, {"adb"}, {"c c ab"}} {
		refused(t, api.ErrOver, crossing("abcd", groups...), ratios...)
	}
	row{crossing("abcd", "a b"), ratios, fr(1, 1<<62-1), []int{1}, []int{1}}.hold(t)
	row{crossing("abcd", "b a c"), ratios, fr(5, 1), []int{2}, []int{2}}.hold(t)
	ratios = []api.Frac{fr(highest, 1), fr(1, 1), fr(-1, 1), fr(lowest, 1)}
	for _, groups := range [][]string{{"ab"}, {"ba"}, {"dc"}, {"a dc"}, {"dc a"}, {"aa"}, {"dd a"}} {
		refused(t, api.ErrOver, crossing("abcd", groups...), ratios...)
	}
}

// Promise 11.1: phases are added in their order, so that one that comes ahead may keep a sum within, or not.
func TestOrderOfPhases(t *testing.T) {
	ratios := []api.Frac{fr(highest, 1), fr(1, 1), fr(-1, 1)}
	refused(t, api.ErrOver, crossing("abc", "abc"), ratios...)
	refused(t, api.ErrOver, crossing("abc", "bac"), ratios...)
	row{crossing("abc", "acb"), ratios, fr(highest, 1), []int{0}, []int{0, 2, 1}}.hold(t)
	row{crossing("abc", "bca"), ratios, fr(highest, 1), []int{0}, []int{1, 2, 0}}.hold(t)
	row{crossing("abc", "cba"), ratios, fr(highest, 1), []int{0}, []int{2, 1, 0}}.hold(t)
	row{crossing("abc", "cab"), ratios, fr(highest, 1), []int{0}, []int{2, 0, 1}}.hold(t)
}

// Promise 11.1: sums of rings that fit, and whose sum does not; rings that are not taken do not count there.
func TestGroupsOver(t *testing.T) {
	ratios := []api.Frac{fr(highest, 1), fr(1, 1), fr(-1, 1), fr(1, 1<<62), fr(1, 1<<62-1)}
	for _, groups := range [][]string{{"a", "b"}, {"b", "a"}, {"d", "e"}, {"e", "d"}, {"a", "b", "c"}, {"b", "a", "c"}, {"a", "c b"}, {"c a", "b c"}, {"a", "a"}, {".", "a", ".", "b"}, {"d e", "d ."}} {
		refused(t, api.ErrOver, crossing("abcde", groups...), ratios...)
	}
	for _, r := range []row{
		{crossing("abcde", "a", "c", "b"), ratios, fr(highest, 1), []int{0, 0, 0}, []int{0, 2, 1}},
		{crossing("abcde", "b", "c", "a"), ratios, fr(highest, 1), []int{0, 0, 0}, []int{1, 2, 0}},
		{crossing("abcde", "a b", ". c"), ratios, fr(highest, 1), []int{0, 0}, []int{0}},
		{crossing("abcde", "b d", "e b"), ratios, fr(2, 1), []int{0, 1}, []int{1, 1}},
	} {
		r.hold(t)
	}
}

// Promise 11.1: rings are added each by itself, then their sums: not all phases of the way in one row.
func TestRingsByThemselves(t *testing.T) {
	ratios := []api.Frac{fr(highest, 1), fr(1, 1), fr(-1, 1)}
	row{crossing("abc", "a", "bc"), ratios, fr(highest, 1), []int{0, 0}, []int{0, 1, 2}}.hold(t) // in one row the second step is above 2^63 - 1
	refused(t, api.ErrOver, crossing("abc", "c", "ab"), ratios...)                               // in one row all steps fit
}

// Promises 11.1 and 11.2: a phase that is not there counts 0/1, and has no place.
func TestNotThere(t *testing.T) {
	ratios := []api.Frac{fr(1, 4), fr(1, 5), fr(-2, 5)}
	for _, r := range []row{
		{crossing("abc", "x"), ratios, fr(0, 1), []int{0}, nil},
		{crossing("abc", "x y"), ratios, fr(0, 1), []int{0}, nil},
		{crossing("abc", "x a"), ratios, fr(1, 4), []int{1}, []int{0}},
		{crossing("abc", "c x"), ratios, fr(0, 1), []int{1}, nil},
		{crossing("abc", "xaxbx"), ratios, fr(9, 20), []int{0}, []int{0, 1}},
		{crossing("abc", "xa a"), ratios, fr(1, 4), []int{0}, []int{0}},
		{crossing("abc", "a xa"), ratios, fr(1, 4), []int{0}, []int{0}},
		{crossing("abc", "b", "x", "xa"), ratios, fr(9, 20), []int{0, 0, 0}, []int{1, 0}},
		{crossing("abc", "A", "B a"), ratios, fr(1, 4), []int{0, 1}, []int{0}},
	} {
		r.hold(t)
	}
	x := crossing("abc")
	x.Groups = []api.Group{{Rings: []api.Row{{Phases: []string{"", "a ", "aa"}}, {Phases: []string{"c"}}}}}
	row{x, ratios, fr(0, 1), []int{0}, nil}.hold(t)
	x.Phases[1].Name = "" // an empty name is a name as others are
	row{x, ratios, fr(1, 5), []int{0}, []int{1}}.hold(t)
}

// Promises 11.1 and 11.2: a phase that is named twice counts twice, and stands twice on the way; of a name that two phases have the first one counts.
func TestNamedTwice(t *testing.T) {
	ratios := []api.Frac{fr(1, 4), fr(1, 5), fr(1, 3)}
	for _, r := range []row{
		{crossing("abc", "aa"), ratios, fr(1, 2), []int{0}, []int{0, 0}},
		{crossing("abc", "c aa"), ratios, fr(1, 2), []int{1}, []int{0, 0}},
		{crossing("abc", "aba c"), ratios, fr(7, 10), []int{0}, []int{0, 1, 0}},
		{crossing("abc", "a b", "b a"), ratios, fr(1, 2), []int{0, 1}, []int{0, 0}},
		{crossing("abc", "a a"), ratios, fr(1, 4), []int{0}, []int{0}},
		{crossing("aba", "a b"), ratios, fr(1, 4), []int{0}, []int{0}},
		{crossing("bba", "b a"), ratios, fr(1, 3), []int{1}, []int{2}},
		{crossing("aaa", "a", "aa"), ratios, fr(3, 4), []int{0, 0}, []int{0, 0, 0}},
	} {
		r.hold(t)
	}
}

// Promise 11.2: places stand as the rings name them and the groups stand, not by the node's order.
func TestOrderOfPlaces(t *testing.T) {
	x := crossing("abcdefgh", "hc ab", "g fe", "d")
	ratios := []api.Frac{fr(1, 40), fr(1, 40), fr(1, 10), fr(1, 10), fr(1, 20), fr(1, 10), fr(1, 10), fr(1, 10)}
	row{x, ratios, fr(9, 20), []int{0, 1, 0}, []int{7, 2, 5, 4, 3}}.hold(t)
	ratios[0], ratios[6] = fr(1, 2), fr(1, 3)
	row{x, ratios, fr(23, 24), []int{1, 0, 0}, []int{0, 1, 6, 3}}.hold(t)
}

// Promise 11.1: nodes greater than a network may have.
func TestGreatNodes(t *testing.T) {
	x := crossing("ab", strings.Repeat("b ", 300)+"a", strings.Repeat("b", 400)+" a")
	ratios := []api.Frac{fr(1, 3), fr(1, 1000)}
	if got, e := Sum(x, ratios); e != api.OK || !same(got, api.Critical{Sum: fr(11, 15), Rings: []int{300, 0}}) {
		t.Error(got, e)
	}
	if got := Rank(x, ratios); len(got) != 401 || got[0] != 0 || slices.Contains(got[1:], 0) {
		t.Error(got)
	}
}

// Promise 11.1: a text's network, with the ratios of layer 10.
func TestWithNeeds(t *testing.T) {
	text := `cycle 400 to 900 by 10; peak 1/1;
node m {
  head n volume 450 flow 1800 use 1/1 speed 1500 grade 0 width 1800 length 600 green 70;
  head s volume 360 flow 1800 use 1/1 speed 1500 grade 0 width 1800 length 600 green 70;
  head e volume 720 flow 1800 use 1/1 speed 1500 grade 0 width 1800 length 600 green 70;
  head w volume 180 flow 1800 use 1/1 speed 1500 grade 0 width 1800 length 600 green 70;
  phase a: n; phase b: s; phase c: e; phase d: w;
  group { ring a, b; ring c; }
  group { ring d; }
}`
	n, e, _ := net.Parse([]byte(text))
	if e != api.OK {
		t.Fatal(e)
	}
	needs, e := need.Of(n, 0)
	if e != api.OK {
		t.Fatal(e)
	}
	var ratios []api.Frac
	for _, l := range needs {
		ratios = append(ratios, l.Ratio)
	}
	row{n.Nodes[0], ratios, fr(11, 20), []int{0, 0}, []int{0, 1, 3}}.hold(t)
}

// Promises 11.1 and 11.2, rules R4 and R5: arguments are neither changed, nor kept, nor handed out, what lies behind their ends, too; the answer comes again.
func TestMemory(t *testing.T) {
	fresh := func() (api.Node, []api.Frac) {
		x := crossing("abcde", "*ab c", "xd e", "bb a")
		x.Groups = append(x.Groups, group("a"))[:3]
		return x, []api.Frac{fr(1, 4), fr(1, 5), fr(2, 5), fr(2, 4), fr(1, 10), fr(7, 7), fr(8, 8)}
	}
	x, all := fresh()
	ratios := all[:5]
	want, places := api.Critical{Sum: fr(19, 20), Rings: []int{0, 1, 0}}, []int{0, 1, 4, 1, 1}
	for range 3 {
		got, e := Sum(x, ratios)
		rank := Rank(x, ratios)
		if e != api.OK || !same(got, want) || !slices.Equal(rank, places) {
			t.Fatal(got, e, rank)
		}
		clear(got.Rings[:cap(got.Rings)])
		clear(rank[:cap(rank)])
	}
	got, _ := Sum(x, ratios)
	rank := Rank(x, ratios)
	y, before := fresh()
	if !reflect.DeepEqual(x, y) || !reflect.DeepEqual(x.Groups[:4], y.Groups[:4]) || !slices.Equal(all, before) {
		t.Error("the arguments have changed:", x, all)
	}
	clear(all)
	clear(x.Groups)
	clear(x.Phases)
	if !same(got, want) || !slices.Equal(rank, places) {
		t.Error("the answer has changed:", got, rank)
	}
}

// The helper of 11.1: the first of the greatest ones, of any many.
func TestGreatest(t *testing.T) {
	if got := greatest(); got != 0 {
		t.Error("of none:", got)
	}
	r := rand.New(rand.NewSource(110))
	for range 2000 {
		l := make([]api.Frac, 1+r.Intn(6))
		for i := range l {
			l[i], _ = frac.Of(r.Int63n(7)-3, 1+r.Int63n(3))
		}
		if got := greatest(l...); l[got] != frac.Max(l...) || slices.Contains(l[:got], l[got]) {
			t.Fatal(l, got)
		}
	}
}

// Promise 11.1: of a network that may be each phase is on one ring, so that rings not taken and the way together are all phases.
func TestAllPhases(t *testing.T) {
	x := crossing("abcdefgh", "ab cd", "e fg", "h")
	ratios := make([]api.Frac, 8)
	for i := range ratios {
		ratios[i] = fr(1, int64(3+i))
	}
	way, e := Sum(x, ratios)
	if e != api.OK {
		t.Fatal(e)
	}
	met := Rank(x, ratios)
	for k, g := range x.Groups {
		for i, r := range g.Rings {
			for _, name := range r.Phases {
				if slices.Contains(met, valid.Phase(x, name)) != (i == way.Rings[k]) {
					t.Error(way, met, name)
				}
			}
		}
	}
}
