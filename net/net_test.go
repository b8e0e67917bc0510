package net

import (
	"math/rand"
	"reflect"
	"slices"
	"strings"
	"testing"

	"carrefour/api"
	"carrefour/lex"
)

// all is a network with all parts, and more than one of each where there may be more.
const all = `cycle 600 to 1200 by 10; peak 92/100;
node a {
  head n volume 400 flow 1800 use 2/2 speed 1500 grade -20 width 1800 length 600 green 70;
  head e volume 300 flow 1700 use 21/20 speed 1100 grade 3 width 2000 length 610 green 50; # a side road
  walk w with p1 long 1500 pace 120 least 71;
  walk v with p2 long 1400 pace 110 least 72;
  phase p1: n; phase p2: e, n, e;
  group { ring free p1, p2; ring p3; }
  group { ring p1; }
  foe n e; foe e x;
}
node b { }
artery { stop a out n in e ahead 1 back 2; stop b out e in n ahead 3 back 4; weights 5 6; }`

// bare is a network with none of the parts that may be left out.
const bare = "cycle 1 to 2 by 3; peak 4/5;"

// hold asks that a text is told as the chapter says.
func hold(t *testing.T, text string) {
	t.Helper()
	n, e, at := Parse([]byte(text))
	want, place := verdict(text)
	if e != want || at != place {
		t.Fatalf("Parse(%q): error %d at %d; want %d at %d", text, e, at, want, place)
	}
	if e == api.OK {
		isOf(t, n, text)
	} else if !reflect.DeepEqual(n, api.Net{}) {
		t.Fatalf("Parse(%q): error %d, with %v; want nothing beside an error", text, e, n)
	}
}

func refused(t *testing.T, text string, want api.Errno, place int) {
	t.Helper()
	n, e, at := Parse([]byte(text))
	if e != want || at != place || !reflect.DeepEqual(n, api.Net{}) {
		t.Errorf("Parse(%q): %v, error %d at %d; want nothing, %d at %d", text, n, e, at, want, place)
	}
	hold(t, text)
}

func told(t *testing.T, text string) api.Net {
	t.Helper()
	n, e, at := Parse([]byte(text))
	if e != api.OK || at != 0 {
		t.Fatalf("Parse(%q): error %d at %d", text, e, at)
	}
	return n
}

func textsOf(t *testing.T, text string) []string {
	t.Helper()
	l, e, _ := lex.Tokens([]byte(text))
	if e != api.OK {
		t.Fatal(text, e)
	}
	texts := []string{}
	for _, x := range l[:len(l)-1] {
		texts = append(texts, x.Text)
	}
	return texts
}

// vocabulary has each token that texts use, two names, a number.
func vocabulary() []string {
	l := append(strings.Fields(reserved), strings.Fields("{ } , ; : / - n zz 7")...)
	return l
}

// node puts parts of a node into a network.
func node(parts string) string { return sure + "node a {" + parts + "}" }

func with(text, old, new string) string {
	if !strings.Contains(text, old) {
		panic("no " + old)
	}
	return strings.Replace(text, old, new, 1)
}

// Promise 5.1: the chapter's examples.
func TestExamples(t *testing.T) {
	n := told(t, "cycle 600 to 900 by 10; peak 1/1;")
	if len(n.Nodes) != 0 || len(n.Stops) != 0 || n.Min != 600 || n.Max != 900 || n.Step != 10 || n.Peak != (api.Frac{Num: 1, Den: 1}) {
		t.Error(n)
	}
	refused(t, "cycle 600;", api.ErrWant, 9)
}

// Promise 5.1: a network with all parts, each field and each Pos.
func TestAll(t *testing.T) {
	at := func(s string) int {
		i := strings.Index(all, s)
		if i < 0 {
			t.Fatal("no", s)
		}
		return i + strings.Index(s, " ") + 1
	}
	want := api.Net{
		Min: 600, Max: 1200, Step: 10, Peak: api.Frac{Num: 92, Den: 100},
		Nodes: []api.Node{{
			Name: "a", Pos: at("node a"),
			Heads: []api.Head{
				{Name: "n", Volume: 400, Sat: 1800, Use: api.Frac{Num: 2, Den: 2}, Speed: 1500, Grade: -20, Width: 1800, Length: 600, Green: 70, Pos: at("head n")},
				{Name: "e", Volume: 300, Sat: 1700, Use: api.Frac{Num: 21, Den: 20}, Speed: 1100, Grade: 3, Width: 2000, Length: 610, Green: 50, Pos: at("head e")},
			},
			Peds: []api.Ped{
				{Name: "w", Phase: "p1", Long: 1500, Pace: 120, Walk: 71, Pos: at("walk w")},
				{Name: "v", Phase: "p2", Long: 1400, Pace: 110, Walk: 72, Pos: at("walk v")},
			},
			Phases: []api.Phase{
				{Name: "p1", Heads: []string{"n"}, Pos: at("phase p1")},
				{Name: "p2", Heads: []string{"e", "n", "e"}, Pos: at("phase p2")},
			},
			Groups: []api.Group{
				{Rings: []api.Row{{Free: true, Phases: []string{"p1", "p2"}}, {Phases: []string{"p3"}}}},
				{Rings: []api.Row{{Phases: []string{"p1"}}}},
			},
			Foes: []api.Foe{{A: "n", B: "e", Pos: at("foe n")}, {A: "e", B: "x", Pos: at("foe e")}},
		}, {Name: "b", Pos: at("node b")}},
		Stops: []api.Stop{
			{Node: "a", Out: "n", In: "e", Ahead: 1, Back: 2, Pos: at("stop a")},
			{Node: "b", Out: "e", In: "n", Ahead: 3, Back: 4, Pos: at("stop b")},
		},
		WOut: 5, WIn: 6,
	}
	if n := told(t, all); !reflect.DeepEqual(n, want) {
		t.Errorf("%+v; want %+v", n, want)
	}
	hold(t, all)
}

// Promise 5.1: nothing, and networks without what may be left out.
func TestBare(t *testing.T) {
	refused(t, "", api.ErrWant, 0)
	refused(t, " \n# no more\n", api.ErrWant, 12)
	if n, e, at := Parse(nil); e != api.ErrWant || at != 0 || !reflect.DeepEqual(n, api.Net{}) {
		t.Error(n, e, at)
	}
	if n := told(t, bare); !reflect.DeepEqual(n, api.Net{Min: 1, Max: 2, Step: 3, Peak: api.Frac{Num: 4, Den: 5}}) {
		t.Error(n)
	}
	for _, text := range []string{bare, bare + "artery { weights 0 0; }", bare + "artery { weights 1 2; }", node(""), node("group { ring a; }"), node("group { ring a; }") + "artery { weights 1 2; }"} {
		if e, _ := verdict(text); e != api.OK {
			t.Fatal(text, e)
		}
		hold(t, text)
	}
	n := told(t, bare+"artery { weights 8 9; }")
	if len(n.Stops) != 0 || n.WOut != 8 || n.WIn != 9 {
		t.Error(n)
	}
}

// Promise 5.1: texts of which one token is wrong: left out, put in, or another one in its place.
func TestOneWrong(t *testing.T) {
	for _, text := range []string{all, bare, bare + "artery { weights 1 2; }", node("group { ring free a; }")} {
		l := textsOf(t, text)
		for i := range l {
			hold(t, strings.Join(slices.Delete(slices.Clone(l), i, i+1), " "))
			hold(t, strings.Join(slices.Insert(slices.Clone(l), i, l[i]), " "))
			if i > 0 {
				swapped := slices.Clone(l)
				swapped[i-1], swapped[i] = l[i], l[i-1]
				hold(t, strings.Join(swapped, " "))
			}
		}
		for i := range len(l) + 1 {
			for _, v := range vocabulary() {
				hold(t, strings.Join(slices.Insert(slices.Clone(l), i, v), " "))
				if i < len(l) {
					other := slices.Clone(l)
					other[i] = v
					hold(t, strings.Join(other, " "))
				}
			}
		}
	}
}

// Promise 5.1: texts that end behind each token, and behind each byte.
func TestEnds(t *testing.T) {
	l := textsOf(t, all)
	for i := range len(l) {
		text := strings.Join(l[:i], " ")
		hold(t, text)
		hold(t, text+" # and\n\n")
	}
	for i := range len(all) {
		hold(t, all[:i])
	}
	refused(t, "cycle", api.ErrWant, 5)
	refused(t, "cycle  ", api.ErrWant, 7)
	refused(t, sure+"node a {", api.ErrWant, len(sure)+8)
	refused(t, bare+" artery", api.ErrWant, len(bare)+7)
}

// Promise 5.1: words where names are wanted, and names where words are.
func TestNames(t *testing.T) {
	for _, w := range strings.Fields(reserved) {
		refused(t, sure+"node "+w+" { }", api.ErrWant, len(sure)+5)
		refused(t, node("phase "+w+": a;"), api.ErrWant, len(sure)+14)
		refused(t, node("phase a: "+w+";"), api.ErrWant, len(sure)+17)
		refused(t, node("foe a "+w+";"), api.ErrWant, len(sure)+14)
		if w != "free" {
			refused(t, node("group { ring "+w+"; }"), api.ErrWant, len(sure)+21)
		}
		told(t, node("phase "+w+"_: "+w+"0;"))
	}
	refused(t, node("group { ring free; }"), api.ErrWant, len(sure)+25)
	refused(t, node("group { ring free free a; }"), api.ErrWant, len(sure)+26)
	refused(t, "cycles 1 to 2 by 3; peak 4/5;", api.ErrWant, 0)
	refused(t, "cycle 1 too 2 by 3; peak 4/5;", api.ErrWant, 8)
	refused(t, sure+"nodes a { }", api.ErrWant, len(sure))
	refused(t, sure+"node 1 { }", api.ErrWant, len(sure)+5)
	refused(t, "cycle x to 2 by 3; peak 4/5;", api.ErrWant, 6)
	refused(t, "cycle -1 to 2 by 3; peak 4/5;", api.ErrWant, 6)
	if n := told(t, sure+"node "+strings.Repeat("a", api.MaxName)+" { }"); n.Nodes[0].Name != strings.Repeat("a", api.MaxName) {
		t.Error(n)
	}
}

// Promise 5.1: parts in another order than the grammar's.
func TestOtherOrder(t *testing.T) {
	parts := []string{
		"head n volume 1 flow 2 use 3/4 speed 5 grade 6 width 7 length 8 green 9;",
		"walk w with p long 1 pace 2 least 3;", "phase p: n;", "group { ring p; }", "foe n e;",
	}
	for i, a := range parts {
		for j, b := range parts {
			text := node(a + " " + b)
			if i <= j {
				told(t, text)
				hold(t, text)
			} else {
				refused(t, text, api.ErrWant, len(sure)+8+len(a)+1)
			}
		}
	}
	refused(t, "peak 4/5; cycle 1 to 2 by 3;", api.ErrWant, 0)
	refused(t, bare+"artery { weights 1 2; } node a { }", api.ErrWant, len(bare)+24)
	refused(t, bare+"artery { weights 1 2; stop a out n in n ahead 0 back 0; }", api.ErrWant, len(bare)+22)
	refused(t, sure+parts[0], api.ErrWant, len(sure))
	refused(t, node(node("")), api.ErrWant, len(sure)+8)
}

// Promise 5.1: a grade is below 0 behind -; nothing else may be.
func TestGrade(t *testing.T) {
	for text, want := range map[string]int64{"20": 20, "-20": -20, "- 20": -20, "-# so\n020": -20, "0": 0, "-0": 0, "999999999999999999": 999999999999999999, "-999999999999999999": -999999999999999999} {
		n := told(t, with(all, "grade -20", "grade "+text))
		h := n.Nodes[0].Heads
		if h[0].Grade != want || h[1].Grade != 3 || h[0].Width != 1800 {
			t.Error(text, h)
		}
	}
	refused(t, with(all, "grade -20", "grade --20"), api.ErrWant, strings.Index(all, "grade -20")+7)
	refused(t, with(all, "grade -20", "grade -"), api.ErrWant, strings.Index(all, "grade -20")+8)
	l := textsOf(t, all)
	for i, w := range l {
		if w >= "0" && w <= "99999" && l[i-1] != "grade" {
			text := strings.Join(slices.Insert(slices.Clone(l), i, "-"), " ")
			refused(t, text, api.ErrWant, len(strings.Join(l[:i], " "))+1)
		}
	}
}

// Promise 5.1: numbers as they are told, at most MaxDigits digits long, with noughts ahead, and not in lowest terms.
func TestNumbers(t *testing.T) {
	l := textsOf(t, all)
	for _, s := range []string{"999999999999999999", "100000000000000000", "8"} {
		for i, w := range l {
			if w >= "0" && w <= "99999" {
				other := slices.Clone(l)
				other[i] = s
				hold(t, strings.Join(other, " "))
			}
		}
	}
	n := told(t, "cycle 000000000000000600 to 00 by 010; peak 0/0;")
	if n.Min != 600 || n.Max != 0 || n.Step != 10 || n.Peak != (api.Frac{}) {
		t.Error(n)
	}
	for text, want := range map[string]api.Frac{"6/4": {Num: 6, Den: 4}, "4/6": {Num: 4, Den: 6}, "0/9": {Num: 0, Den: 9}, "9/0": {Num: 9, Den: 0}, "100/100": {Num: 100, Den: 100}, "1 / 2": {Num: 1, Den: 2}} {
		n := told(t, with(with(all, "peak 92/100", "peak "+text), "use 2/2", "use "+text))
		if n.Peak != want || n.Nodes[0].Heads[0].Use != want || n.Nodes[0].Heads[1].Use != (api.Frac{Num: 21, Den: 20}) {
			t.Error(text, n)
		}
	}
}

// Promise 5.1: just as many as there may be, and one more.
func TestLimits(t *testing.T) {
	const head = "head n volume 1 flow 2 use 3/4 speed 5 grade 6 width 7 length 8 green 9; "
	const stop = "stop a out n in n ahead 0 back 0; "
	for _, c := range []struct {
		ahead, one, behind string
		most               int
	}{
		{sure, "node a { } ", "", api.MaxNodes},
		{sure + "artery { ", stop, "weights 1 2; }", api.MaxNodes},
		{sure + "node a { ", head, "}", api.MaxHeads},
		{sure + "node a { ", "walk w with p long 1 pace 2 least 3; ", "}", api.MaxPeds},
		{sure + "node a { ", "phase p: n; ", "}", api.MaxHeads},
		{sure + "node a { ", "group { ring p; } ", "}", api.MaxGroups},
		{sure + "node a { group { ", "ring p; ", "} }", api.MaxRings},
		{sure + "node a { ", "foe n e; ", "}", api.MaxFoes},
	} {
		full := c.ahead + strings.Repeat(c.one, c.most)
		told(t, full+c.behind)
		hold(t, full+c.behind)
		refused(t, full+c.one+c.behind, api.ErrLong, len(full))
		word, _, _ := strings.Cut(c.one, " ")
		refused(t, full+word, api.ErrLong, len(full))
		refused(t, full+word+" ,", api.ErrLong, len(full))
		refused(t, full+word+"s", api.ErrWant, len(full))
		hold(t, full+c.one+c.one+c.behind)
	}
}

// Promise 5.1: each node, and each group, counts anew.
func TestCountsAnew(t *testing.T) {
	part := strings.Repeat("head n volume 1 flow 2 use 3/4 speed 5 grade 6 width 7 length 8 green 9; ", api.MaxHeads) +
		strings.Repeat("walk w with p long 1 pace 2 least 3; ", api.MaxPeds) +
		strings.Repeat("phase p: n"+strings.Repeat(", n", api.MaxHeads-1)+"; ", api.MaxHeads) +
		strings.Repeat("group { "+strings.Repeat("ring free p"+strings.Repeat(", p", api.MaxRow-1)+"; ", api.MaxRings)+"} ", api.MaxGroups) +
		strings.Repeat("foe n e; ", api.MaxFoes)
	one := "node a { " + part + "} "
	full := sure + strings.Repeat(one, api.MaxNodes) + "artery { " + strings.Repeat("stop a out n in n ahead 0 back 0; ", api.MaxNodes) + "weights 1 2; }"
	if len(full) > api.MaxText {
		t.Fatal("a text of more than MaxText bytes")
	}
	n := told(t, full)
	last := n.Nodes[api.MaxNodes-1]
	if len(n.Nodes) != api.MaxNodes || len(n.Stops) != api.MaxNodes || len(last.Heads) != api.MaxHeads || len(last.Peds) != api.MaxPeds || len(last.Phases) != api.MaxHeads || len(last.Groups) != api.MaxGroups || len(last.Foes) != api.MaxFoes || len(last.Groups[3].Rings) != api.MaxRings {
		t.Error("parts are lost")
	}
	hold(t, full)
	// A word that begins one more stands behind a part of another kind: it is not wanted there.
	refused(t, node(strings.Repeat("phase p: n; ", api.MaxHeads)+"foe n e; phase"), api.ErrWant, len(sure)+8+12*api.MaxHeads+9)
}

// Promise 5.1: names of a phase's list, and of a ring's.
func TestLists(t *testing.T) {
	for _, c := range []struct {
		ahead, behind string
		most          int
	}{
		{sure + "node a { phase p: ", "; }", api.MaxHeads},
		{sure + "node a { group { ring ", "; } }", api.MaxRow},
		{sure + "node a { group { ring free ", "; } }", api.MaxRow},
	} {
		names := "n" + strings.Repeat(", n", c.most-1)
		told(t, c.ahead+names+c.behind)
		hold(t, c.ahead+names+c.behind)
		full := c.ahead + names
		refused(t, full+", n"+c.behind, api.ErrLong, len(full)+2)
		refused(t, full+", n, n"+c.behind, api.ErrLong, len(full)+2)
		refused(t, full+", n", api.ErrLong, len(full)+2)
		refused(t, full+", n n", api.ErrLong, len(full)+2)
		refused(t, full+",", api.ErrWant, len(full)+1)
		refused(t, full+", head", api.ErrWant, len(full)+2)
		refused(t, full+", 1", api.ErrWant, len(full)+2)
		refused(t, full+" n", api.ErrWant, len(full)+1)
		refused(t, c.ahead+c.behind, api.ErrWant, len(c.ahead))
		refused(t, c.ahead+", n"+c.behind, api.ErrWant, len(c.ahead))
		refused(t, c.ahead+"n,"+c.behind, api.ErrWant, len(c.ahead)+2)
	}
	told(t, node("foe n n;"))
	told(t, node("phase p: p, p;"))
}

// Promise 5.1: what layer 4 refuses is told ahead of all else, wherever it stands.
func TestLayerFour(t *testing.T) {
	long := strings.Repeat("a", api.MaxName+1)
	digits := strings.Repeat("1", api.MaxDigits+1)
	for _, ok := range []string{"", bare, all, "cycle 600;", "cycle x", node("group { }"), node("group { ring a, b, c, d, e; }")} {
		for bad, e := range map[string]api.Errno{"!": api.ErrByte, "_a": api.ErrByte, "A": api.ErrByte, "\x00": api.ErrByte, "\xff": api.ErrByte, long: api.ErrLong, digits: api.ErrLong} {
			refused(t, ok+" "+bad, e, len(ok)+1)
			refused(t, ok+" "+bad+" node", e, len(ok)+1)
			refused(t, bad+" "+ok, e, 0)
		}
		refused(t, ok+strings.Repeat(" ", api.MaxText-len(ok))+";", api.ErrLong, api.MaxText)
		refused(t, ok+strings.Repeat("!", api.MaxText+1-len(ok)), api.ErrLong, api.MaxText)
		hold(t, ok+strings.Repeat(" ", api.MaxText-len(ok)))
	}
	refused(t, "cycle x _ 1", api.ErrByte, 8)
	refused(t, "cycle _ x", api.ErrByte, 6)
	refused(t, "cycle 600 # !", api.ErrWant, 13)
}

// Promise 5.1: behind an artery there is the end.
func TestBehindArtery(t *testing.T) {
	text := bare + " artery { weights 1 2; } "
	for _, v := range vocabulary() {
		refused(t, text+v, api.ErrWant, len(text))
		refused(t, all+" "+v, api.ErrWant, len(all)+1)
	}
	refused(t, text+"artery { weights 1 2; }", api.ErrWant, len(text))
	refused(t, bare+" artery { }", api.ErrWant, len(bare)+10)
	refused(t, bare+" artery { weights 1; }", api.ErrWant, len(bare)+19)
	refused(t, bare+" artery { weights 1 2 3; }", api.ErrWant, len(bare)+22)
	refused(t, bare+" artery { weights 1, 2; }", api.ErrWant, len(bare)+19)
	told(t, text+"# artery")
}

// flat forgets where things stand.
func flat(n api.Net) api.Net {
	for i := range n.Nodes {
		x := &n.Nodes[i]
		x.Pos = 0
		for j := range x.Heads {
			x.Heads[j].Pos = 0
		}
		for j := range x.Peds {
			x.Peds[j].Pos = 0
		}
		for j := range x.Phases {
			x.Phases[j].Pos = 0
		}
		for j := range x.Foes {
			x.Foes[j].Pos = 0
		}
	}
	for i := range n.Stops {
		n.Stops[i].Pos = 0
	}
	return n
}

// laid lays tokens with something between each two, and tells where each of them, and the end, stands.
func laid(l []string, between func() string) (string, []int) {
	var s strings.Builder
	var places []int
	for _, w := range l {
		s.WriteString(between())
		places = append(places, s.Len())
		s.WriteString(w)
	}
	s.WriteString(between())
	return s.String(), append(places, s.Len())
}

// Promise 5.2: blanks and remarks do not count.
func TestBlanks(t *testing.T) {
	r := rand.New(rand.NewSource(5))
	gaps := []string{" ", "\t", "\n", "\r\n", "# node a {\n", " #\n", "##!\xff\x00\n ", "  \t\r\n"}
	anyGap := func() string { return gaps[r.Intn(len(gaps))] + gaps[r.Intn(len(gaps))] }
	broken := append(textsOf(t, all), "node")
	for _, l := range [][]string{textsOf(t, all), textsOf(t, bare), broken, broken[:70], {}} {
		plain, places := laid(l, func() string { return " " })
		want, e, at := Parse([]byte(plain))
		for range 200 {
			text, moved := laid(l, anyGap)
			n, f, place := Parse([]byte(text))
			if f != e || !reflect.DeepEqual(flat(n), flat(want)) {
				t.Fatalf("Parse(%q): %v, error %d; want %v, error %d", text, n, f, want, e)
			}
			if e != api.OK && place != moved[slices.Index(places, at)] {
				t.Fatalf("Parse(%q): place %d; want that of token %d", text, place, slices.Index(places, at))
			}
			hold(t, text)
		}
	}
	tight := "cycle 1to 2by 3;peak 4/5;node a{phase p:a,b;group{ring free p;}foe a b;}artery{weights 1 2;}"
	hold(t, tight)
	if told(t, tight).Nodes[0].Foes[0].Pos != strings.Index(tight, "a b;}") {
		t.Error(tight)
	}
}

// Promise 5.2: whatever bytes, there is a network, or an error and its place. (Texts that the grammar goes on with for long, and then not.)
func TestAnyText(t *testing.T) {
	r := rand.New(rand.NewSource(55))
	right := 0
	for range 20000 {
		var l []string
		states := theMachine.closed([]int{0})
		for range 300 {
			allowed := theMachine.allowed(states)
			if len(allowed) == 0 || slices.Contains(states, theMachine.last) && r.Intn(6) == 0 {
				break
			}
			what := allowed[r.Intn(len(allowed))]
			states = theMachine.goOn(states, what)
			switch what {
			case "NAME":
				what = []string{"a", "b", "ring_1", "n2"}[r.Intn(4)]
			case "NUM":
				what = []string{"1", "20", "333"}[r.Intn(3)]
			}
			l = append(l, what)
		}
		if v := vocabulary(); r.Intn(3) == 0 && len(l) > 0 {
			l[r.Intn(len(l))] = v[r.Intn(len(v))]
		}
		text, _ := laid(l, func() string { return " " })
		hold(t, text)
		if e, _ := verdict(text); e == api.OK {
			right++
		}
	}
	if right < 1000 {
		t.Fatal("too few networks:", right)
	}
}

// Promise 5.2: bytes of no form; each byte of a text changed.
func TestAnyBytes(t *testing.T) {
	r := rand.New(rand.NewSource(555))
	for i := range len(all) {
		for _, c := range []byte{0, '#', '_', 'A', 0xff, '{', '}', ';', ' ', '-', 'z', '1', byte(r.Intn(256))} {
			b := []byte(all)
			b[i] = c
			if n, e, at := Parse(b); e == api.OK && at != 0 || e != api.OK && (at < 0 || at > len(b) || !reflect.DeepEqual(n, api.Net{})) {
				t.Fatalf("Parse(%q): %v, error %d at %d", b, n, e, at)
			}
			e, at := verdict(string(b))
			if _, f, place := Parse(b); f != e || place != at {
				t.Fatalf("Parse(%q): error %d at %d; want %d at %d", b, f, place, e, at)
			}
		}
	}
	for range 2000 {
		b := make([]byte, r.Intn(40))
		r.Read(b)
		hold(t, string(b))
	}
}

// Rule R4: what is handed in is neither changed nor kept, and lists of an answer share no memory.
func TestMemory(t *testing.T) {
	behind := all + " !"
	b := []byte(behind)
	n, e, at := Parse(b[:len(all)])
	if e != api.OK || at != 0 || string(b) != behind {
		t.Fatal(e, at, string(b))
	}
	want := told(t, all)
	for i := range b {
		b[i] = '!'
	}
	if !reflect.DeepEqual(n, want) {
		t.Fatal("a text that changes behind the call changes its network")
	}
	scribble := func(l []string) {
		l = l[:cap(l)]
		for i := range l {
			l[i] = "scribbled"
		}
	}
	a := n.Nodes[0]
	scribble(a.Phases[0].Heads)
	scribble(a.Groups[0].Rings[0].Phases)
	_ = append(a.Groups[0].Rings[:1], api.Row{Free: true})
	_ = append(n.Nodes, api.Node{Name: "scribbled"})
	m := told(t, all).Nodes[0]
	if !slices.Equal(a.Phases[1].Heads, m.Phases[1].Heads) || !reflect.DeepEqual(a.Groups[1], m.Groups[1]) || !slices.Equal(a.Heads, m.Heads) || !slices.Equal(a.Peds, m.Peds) || !slices.Equal(a.Foes, m.Foes) {
		t.Error("lists of an answer share memory")
	}
	if !reflect.DeepEqual(told(t, all), want) {
		t.Error("a call changes what a later one tells")
	}
}

// What is wrong on the way tells its number and its place.
func TestFault(t *testing.T) {
	f := fault{api.ErrWant, 9}
	if f.Unwrap() != error(api.ErrWant) || !strings.HasSuffix(f.Error(), " at 9") {
		t.Error(f)
	}
}
