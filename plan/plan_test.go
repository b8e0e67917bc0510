package plan

import (
	"math"
	"math/rand"
	"reflect"
	"slices"
	"strconv"
	"strings"
	"sync"
	"testing"

	"carrefour/api"
)

// example is the chapter's text.
const example = `plan cycle 600;
node a offset 0 sum 11/20 {
  group {
    ring {
      phase p split 300 yellow 35 red 16 walk w 70 flash 125;
      phase q split 300 yellow 30 red 20;
    }
  }
}
out 0 249;
in 10 200;
best yes;
spent 17;
`

func examplePlan() api.Plan {
	return api.Plan{
		Cycle: 600,
		Timings: []api.Timing{{
			Node: "a", Sum: api.Frac{Num: 11, Den: 20},
			Spans: []api.Span{{Rings: [][]api.Slot{{
				{Phase: "p", Split: 300, Yellow: 35, Red: 16, Walks: []api.Walk{{Ped: "w", Walk: 70, Flash: 125}}},
				{Phase: "q", Split: 300, Yellow: 30, Red: 20},
			}}}},
		}},
		Out: api.Window{Width: 249}, In: api.Window{Start: 10, Width: 200}, Best: true, Spent: 17,
	}
}

// all tells a plan with all its parts, more than one of each where there may be more, and no two numbers or names the same.
func all() api.Plan {
	return api.Plan{
		Cycle: 601,
		Timings: []api.Timing{{
			Node: "a", Offset: 1, Sum: api.Frac{Num: 6, Den: 4},
			Spans: []api.Span{
				{Rings: [][]api.Slot{
					{
						{Phase: "p1", Split: 310, Yellow: 35, Red: 16, Walks: []api.Walk{{Ped: "w1", Walk: 71, Flash: 121}, {Ped: "w2", Walk: 72, Flash: 122}}},
						{Phase: "p2", Split: 320, Yellow: 36, Red: 17},
					},
					{{Phase: "p3", Split: 330, Yellow: 37, Red: 18, Walks: []api.Walk{{Ped: "w3", Walk: 73, Flash: 123}}}},
				}},
				{Rings: [][]api.Slot{{{Phase: "p4", Split: 340, Yellow: 38, Red: 19}}}},
			},
		}, {Node: "b", Offset: 2, Sum: api.Frac{Num: 7, Den: 8}}},
		Out: api.Window{Start: 11, Width: 249}, In: api.Window{Start: 12, Width: 200}, Spent: 21,
	}
}

const allText = `plan cycle 601;
node a offset 1 sum 6/4 {
  group {
    ring {
      phase p1 split 310 yellow 35 red 16 walk w1 71 flash 121 walk w2 72 flash 122;
      phase p2 split 320 yellow 36 red 17;
    }
    ring {
      phase p3 split 330 yellow 37 red 18 walk w3 73 flash 123;
    }
  }
  group {
    ring {
      phase p4 split 340 yellow 38 red 19;
    }
  }
}
node b offset 2 sum 7/8 {
}
out 11 249;
in 12 200;
best no;
spent 21;
`

// bare is a plan of no timings.
const bare = "plan cycle 1; out 2 3; in 4 5; best yes; spent 6;"

// Around parts of a plan: what stands ahead of its timings, groups, rings, phases, walks, and what closes them.
const (
	tail      = "out 2 3; in 4 5; best yes; spent 6;"
	inPlan    = "plan cycle 1; "
	inNode    = inPlan + "node a offset 7 sum 8/9 { "
	inGroup   = inNode + "group { "
	inRing    = inGroup + "ring { "
	inPhase   = inRing + "phase p split 10 yellow 11 red 12 "
	aWalk     = "walk w 13 flash 14 "
	aPhase    = "phase p split 10 yellow 11 red 12; "
	aRing     = "ring { " + aPhase + "} "
	aGroup    = "group { " + aRing + "} "
	aNode     = "node a offset 7 sum 8/9 { } "
	ofNode    = "} " + tail
	ofGroup   = "} " + ofNode
	ofRing    = "} " + ofGroup
	ofPhase   = "; " + ofRing
	wordsSize = 42
)

// many tells so many of one thing.
func many[T any](x T, n int) []T { return slices.Repeat([]T{x}, n) }

func with(text, old, new string) string {
	if !strings.Contains(text, old) {
		panic("no " + old)
	}
	return strings.Replace(text, old, new, 1)
}

// textsOf tells the texts of tokens, of which each is a word, a number or a sign.
func textsOf(text string) []string {
	for _, s := range []string{";", "/", "{", "}"} {
		text = strings.ReplaceAll(text, s, " "+s+" ")
	}
	return strings.Fields(text)
}

// bothWays asks that a plan is printed as a text, and the text is read as that plan.
func bothWays(t *testing.T, p api.Plan, text string) {
	t.Helper()
	if got := printed(t, p); got != text {
		t.Errorf("Print(%v):\n%s; want\n%s", p, got, text)
	}
	if got := told(t, text); !same(got, p) {
		t.Errorf("Parse(%s): %v; want %v", text, got, p)
	}
	holdPlan(t, p)
}

// Promises 17.1 to 17.3: the chapter's text, byte by byte, and a plan with all that may be in one.
func TestBothWays(t *testing.T) {
	bothWays(t, examplePlan(), example)
	bothWays(t, all(), allText)
}

// Promises 17.1 to 17.3: a plan of no timings, a timing of no groups, a phase of no walks, of one, of several.
func TestBare(t *testing.T) {
	const end = "out 0 0;\nin 0 0;\nbest no;\nspent 0;\n"
	bothWays(t, api.Plan{}, "plan cycle 0;\n"+end)
	bothWays(t, api.Plan{Timings: []api.Timing{}}, "plan cycle 0;\n"+end)
	bothWays(t, api.Plan{Best: true}, "plan cycle 0;\nout 0 0;\nin 0 0;\nbest yes;\nspent 0;\n")
	bothWays(t, api.Plan{Timings: []api.Timing{{Node: "a"}, {Node: "a", Spans: []api.Span{}}}}, "plan cycle 0;\nnode a offset 0 sum 0/0 {\n}\nnode a offset 0 sum 0/0 {\n}\n"+end)
	walks := ""
	for n := range api.MaxPeds + 1 {
		p := api.Plan{Timings: []api.Timing{{Node: "a", Spans: []api.Span{{Rings: [][]api.Slot{{{Phase: "p", Walks: many(api.Walk{Ped: "w", Walk: 5}, n)}}}}}}}}
		bothWays(t, p, "plan cycle 0;\nnode a offset 0 sum 0/0 {\n  group {\n    ring {\n      phase p split 0 yellow 0 red 0"+walks+";\n    }\n  }\n}\n"+end)
		walks += " walk w 5 flash 0"
	}
	refused(t, "", api.ErrWant, 0)
	refused(t, " \n# no more\n", api.ErrWant, 12)
	if p, e, at := Parse(nil); e != api.ErrWant || at != 0 || !reflect.DeepEqual(p, api.Plan{}) {
		t.Error(p, e, at)
	}
}

// Promise 17.1: where a text goes wrong first.
func TestWrong(t *testing.T) {
	for _, c := range []struct {
		text  string
		place int
	}{
		{"plan cycle x", 11},
		{"plan cycle 600", 14},
		{"plan 600;", 5},
		{"cycle 600;", 0},
		{"plan cycle 5; out 1;", 19},
		{"plan cycle 5; in 1 2;", 14},
		{"plan cycle 5; out 1 2; best yes;", 23},
		{"plan cycle 5; out 1 2; in 3 4; best maybe;", 36},
		{"plan cycle 5; out 1 2; in 3 4; best 1;", 36},
		{"plan cycle 5; out 1 2; in 3 4; best;", 35},
		{"plan cycle 5; out 1 2; in 3 4; best yes no;", 40},
		{"plan cycle 5; out 1 2; in 3 4; best no; spent;", 45},
		{"plan cycle 5; out 1 2; in 3 4; best no; spent 0", 47},
		{"plan cycle 5; out 1 2; in 3 4; best no; spent 0; ;", 49},
		{"plan cycle -5;", 11},
		{inPlan + "group { }", len(inPlan)},
		{inNode + "ring { }", len(inNode)},
		{inNode + "group { }", len(inNode) + 8},
		{inNode + "group { phase }", len(inNode) + 8},
		{inGroup + "ring { }", len(inGroup) + 7},
		{inGroup + "ring { walk }", len(inGroup) + 7},
		{inGroup + aRing + "phase", len(inGroup) + len(aRing)},
		{inNode + "group ;", len(inNode) + 6},
		{inPhase + "}", len(inPhase)},
		{inPhase + "walk w 1 flash 2, walk", len(inPhase) + 16},
		{bare + bare, len(bare)},
		{bare + " node", len(bare) + 1},
		{with(allText, "6/4", "6"), strings.Index(allText, "6/4") + 2},
		{with(allText, "6/4", "6:4"), strings.Index(allText, "6/4") + 1},
		{with(allText, "6/4", "-6/4"), strings.Index(allText, "6/4")},
	} {
		refused(t, c.text, api.ErrWant, c.place)
	}
}

// Promise 17.1: each token of a text left out, doubled, behind the next one, or another one in its place or ahead of it.
func TestOneWrong(t *testing.T) {
	vocabulary := append(strings.Fields(reserved), strings.Fields("{ } , ; : / - n zz 7")...)
	if len(vocabulary) != wordsSize+10 {
		t.Fatal("words:", len(vocabulary))
	}
	for _, text := range []string{example, allText, bare} {
		l := textsOf(text)
		for i := range l {
			holdText(t, strings.Join(slices.Delete(slices.Clone(l), i, i+1), " "))
			holdText(t, strings.Join(slices.Insert(slices.Clone(l), i, l[i]), " "))
			if i > 0 {
				swapped := slices.Clone(l)
				swapped[i-1], swapped[i] = l[i], l[i-1]
				holdText(t, strings.Join(swapped, " "))
			}
		}
		for i := range len(l) + 1 {
			for _, v := range vocabulary {
				holdText(t, strings.Join(slices.Insert(slices.Clone(l), i, v), " "))
				if i < len(l) {
					other := slices.Clone(l)
					other[i] = v
					holdText(t, strings.Join(other, " "))
				}
			}
		}
	}
}

// Promise 17.1: texts that end behind each token, and behind each byte.
func TestEnds(t *testing.T) {
	l := textsOf(allText)
	for i := range len(l) {
		text := strings.Join(l[:i], " ")
		refused(t, text, api.ErrWant, len(text))
		refused(t, text+" # and\n\n", api.ErrWant, len(text)+8)
	}
	for i := range len(allText) {
		holdText(t, allText[:i])
	}
}

// Promise 17.1: words where names are wanted, and names where words are.
func TestNames(t *testing.T) {
	for _, w := range strings.Fields(reserved) {
		refused(t, with(inNode, "node a", "node "+w)+ofNode, api.ErrWant, len(inPlan)+5)
		refused(t, with(inPhase, "phase p", "phase "+w)+ofPhase, api.ErrWant, len(inRing)+6)
		refused(t, inPhase+with(aWalk, "walk w", "walk "+w)+ofPhase, api.ErrWant, len(inPhase)+5)
		told(t, inPhase+with(aWalk, "walk w", "walk "+w+"_")+ofPhase)
		told(t, with(inPhase, "phase p", "phase x"+w)+ofPhase)
		// The same word, but for one byte behind it.
		for _, i := range []int{strings.Index(allText, w+" "), strings.Index(allText, w+";")} {
			if i >= 0 {
				holdText(t, allText[:i]+w+"s"+allText[i+len(w):])
			}
		}
	}
	refused(t, inPhase+with(aWalk, "walk w", "walk 1")+ofPhase, api.ErrWant, len(inPhase)+5)
	longest := strings.Repeat("a", api.MaxName)
	if p := told(t, with(inNode, "node a", "node "+longest)+ofNode); p.Timings[0].Node != longest {
		t.Error(p)
	}
}

// Promise 17.1: a Sum stands as it is told; numbers have at most MaxDigits digits, noughts ahead of them, too.
func TestNumbersRead(t *testing.T) {
	for text, want := range map[string]api.Frac{
		"6/4": {Num: 6, Den: 4}, "4/6": {Num: 4, Den: 6}, "0/9": {Num: 0, Den: 9}, "9/0": {Num: 9, Den: 0}, "0/0": {}, "100/100": {Num: 100, Den: 100}, "1 / 2": {Num: 1, Den: 2}, "3#\n/ 01": {Num: 3, Den: 1},
		"999999999999999999/999999999999999999": {Num: greatestNumber, Den: greatestNumber},
	} {
		p := told(t, with(allText, "6/4", text))
		if p.Timings[0].Sum != want || p.Timings[1].Sum != (api.Frac{Num: 7, Den: 8}) {
			t.Error(text, p)
		}
	}
	l := textsOf(allText)
	for i, w := range l {
		if w[0] < '0' || w[0] > '9' {
			continue
		}
		for _, s := range []string{"0", "000000000000000007", "999999999999999999", "100000000000000000"} {
			other := slices.Clone(l)
			other[i] = s
			told(t, strings.Join(other, " "))
		}
		ahead := strings.Join(l[:i], " ") + " "
		for _, s := range []string{"1000000000000000000", "0000000000000000001"} {
			refused(t, ahead+s+" "+strings.Join(l[i+1:], " "), api.ErrLong, len(ahead))
		}
		refused(t, ahead+"-"+w+" "+strings.Join(l[i+1:], " "), api.ErrWant, len(ahead))
	}
	p := told(t, "plan cycle 000600; out 01 00; in 2 03; best no; spent 000;")
	if !same(p, api.Plan{Cycle: 600, Out: api.Window{Start: 1}, In: api.Window{Start: 2, Width: 3}}) {
		t.Error(p)
	}
}

// Promise 17.1: blanks and remarks between all tokens.
func TestBlanks(t *testing.T) {
	l := textsOf(allText)
	for _, between := range []string{" ", "\n", "\t\r\n ", " # so; } yes\n", "#\n#\n", "# \xff\x00!\n"} {
		text := between + strings.Join(l, between) + between
		if p := told(t, text); !same(p, all()) {
			t.Errorf("%q: %v", text, p)
		}
	}
	if p := told(t, "plan cycle 601;node a offset 1 sum 6/4{group{ring{phase p1 split 310 yellow 35 red 16 walk w1 71flash 121walk w2 72flash 122;phase p2 split 320yellow 36red 17;}ring{phase p3 split 330yellow 37red 18walk w3 73flash 123;}}group{ring{phase p4 split 340yellow 38red 19;}}}node b offset 2sum 7/8{}out 11 249;in 12 200;best no;spent 21;"); !same(p, all()) {
		t.Error(p)
	}
}

// Promise 17.1: just as many as there may be, and one more.
func TestLimits(t *testing.T) {
	for _, c := range []struct {
		ahead, one, behind string
		most               int
	}{
		{inPlan, aNode, tail, api.MaxNodes},
		{inNode, aGroup, ofNode, api.MaxGroups},
		{inGroup, aRing, ofGroup, api.MaxRings},
		{inRing, aPhase, ofRing, api.MaxRow},
		{inPhase, aWalk, ofPhase, api.MaxPeds},
	} {
		for n := 1; n <= c.most; n++ {
			told(t, c.ahead+strings.Repeat(c.one, n)+c.behind)
		}
		full := c.ahead + strings.Repeat(c.one, c.most)
		refused(t, full+c.one+c.behind, api.ErrLong, len(full))
		refused(t, full+c.one+c.one+c.behind, api.ErrLong, len(full))
		word, _, _ := strings.Cut(c.one, " ")
		refused(t, full+word, api.ErrLong, len(full))
		refused(t, full+word+" ,", api.ErrLong, len(full))
		refused(t, full+word+"s", api.ErrWant, len(full))
		refused(t, full+", "+c.one, api.ErrWant, len(full))
		refused(t, with(full, "cycle 1", "cycle one")+c.one+c.behind, api.ErrWant, 11)
		refused(t, full+c.one+"!", api.ErrByte, len(full)+len(c.one))
	}
}

// Promise 17.1: of several things that are too many, or wrong, the one that stands ahead is told.
func TestFirstOfTwo(t *testing.T) {
	phases := inRing + strings.Repeat(aPhase, api.MaxRow)
	refused(t, phases+aPhase+"} "+aRing+aRing+ofGroup, api.ErrLong, len(phases))
	rings := inGroup + strings.Repeat(aRing, api.MaxRings)
	refused(t, rings+"ring { } "+ofGroup, api.ErrLong, len(rings))
	refused(t, inGroup+"ring { } "+aRing+aRing+ofGroup, api.ErrWant, len(inGroup)+7)
	refused(t, with(rings, "red 12", "red x")+aRing+ofGroup, api.ErrWant, strings.Index(rings, "red 12")+4)
	walks := inPhase + strings.Repeat(aWalk, api.MaxPeds)
	refused(t, walks+aWalk+"walk 1", api.ErrLong, len(walks))
	refused(t, walks+", "+aWalk, api.ErrWant, len(walks))
	// A word that begins one more, where it is not wanted.
	nodes := inPlan + strings.Repeat(aNode, api.MaxNodes)
	refused(t, nodes+"out 2 3; node", api.ErrWant, len(nodes)+9)
	refused(t, phases+"phase phase", api.ErrLong, len(phases))
	refused(t, phases+"} phase", api.ErrWant, len(phases)+2)
}

// Promise 17.1: each node, each group, each ring, each phase counts anew.
func TestCountsAnew(t *testing.T) {
	phase := "phase p split 1 yellow 2 red 3" + strings.Repeat(" walk w 4 flash 5", api.MaxPeds) + "; "
	ring := "ring { " + strings.Repeat(phase, api.MaxRow) + "} "
	group := "group { " + strings.Repeat(ring, api.MaxRings) + "} "
	node := "node a offset 1 sum 2/3 { " + strings.Repeat(group, api.MaxGroups) + "} "
	for _, s := range []string{strings.Repeat(node, 10), strings.Repeat(aNode, api.MaxNodes-2) + node + node} {
		told(t, inPlan+s+tail)
	}
	refused(t, inPlan+node+node+strings.Repeat(aNode, api.MaxNodes-1)+tail, api.ErrLong, len(inPlan)+2*len(node)+(api.MaxNodes-2)*len(aNode))
}

// Promise 17.1: what layer 4 refuses is told ahead of all else, wherever it stands.
func TestLayerFour(t *testing.T) {
	long := strings.Repeat("a", api.MaxName+1)
	digits := strings.Repeat("1", api.MaxDigits+1)
	for _, text := range []string{"", bare, allText, "plan cycle 600", "cycle x", inGroup + ofGroup, inPhase + strings.Repeat(aWalk, api.MaxPeds+1)} {
		for bad, e := range map[string]api.Errno{"!": api.ErrByte, "_a": api.ErrByte, "A": api.ErrByte, "\x00": api.ErrByte, "\xff": api.ErrByte, "(": api.ErrByte, long: api.ErrLong, digits: api.ErrLong} {
			refused(t, text+" "+bad, e, len(text)+1)
			refused(t, text+" "+bad+" node", e, len(text)+1)
			refused(t, bad+" "+text, e, 0)
			refused(t, text+" # "+bad+"\n"+bad, e, len(text)+4+len(bad))
			refused(t, bad+" "+text+" "+bad, e, 0)
		}
		refused(t, text+strings.Repeat(" ", api.MaxText-len(text))+";", api.ErrLong, api.MaxText)
		refused(t, text+strings.Repeat("!", api.MaxText+1-len(text)), api.ErrLong, api.MaxText)
		holdText(t, text+strings.Repeat(" ", api.MaxText-len(text)))
	}
	refused(t, "plan cycle x _ 1", api.ErrByte, 13)
	refused(t, "plan cycle _ x", api.ErrByte, 11)
	refused(t, "plan cycle 5; , out 1 2; in 1 2; best yes; spent 3; !", api.ErrByte, 52)
}

// eachField puts a value at each field of a kind, in a plan of its own.
func eachField(p api.Plan, kind reflect.Kind, put func(name string, v reflect.Value, whole *api.Plan)) int {
	times := 0
	for i := range fieldsOf(&p) {
		q := copyOf(p)
		if f := fieldsOf(&q)[i]; f.value.Kind() == kind {
			put(f.name, f.value, &q)
			times++
		}
	}
	return times
}

// Promise 17.2: each name that is none, at each place of a name.
func TestWrongNames(t *testing.T) {
	wrong := append(strings.Fields(reserved),
		"", " ", "\n", "7", "0", "600", "1a", "_", "_a", "A", "Aa", "aA", "aZb",
		"{", "}", ",", ";", ":", "/", "-", "a-b", "-a", "a,b", "a;", "a:", "a/b", "a{", "a}",
		"a b", " a", "a ", "a\n", "\na", "a\t", "\ra", "a#", "a#b", "#a", "#", "# b\na", "a 1 flash 2 walk b",
		"a.b", "a!", "a'", "a\"", "a`", "a@", "a[", "a~", "a\x00", "\x00", "\x00a", "a\x7f", "a\x80", "\xff", "a\xff", "\u00e9", "a\u00e9", "\uff41", "a\u00a0",
		strings.Repeat("a", api.MaxName+1), "a"+strings.Repeat("1", api.MaxName), strings.Repeat("_", api.MaxName+1),
		strings.Repeat("1", api.MaxDigits), strings.Repeat("1", api.MaxDigits+1),
		strings.Repeat("a", api.MaxText), strings.Repeat("a", api.MaxText+1), "a"+strings.Repeat(" ", api.MaxText+1),
	)
	for _, s := range wrong {
		times := eachField(all(), reflect.String, func(name string, v reflect.Value, p *api.Plan) {
			v.SetString(s)
			if hasText(*p) {
				t.Fatalf("%q at %s has a text", s, name)
			}
			hasNone(t, *p)
		})
		if times != 9 {
			t.Fatal("names:", times)
		}
	}
}

// Promise 17.2: each byte, alone, within a name and at its end.
func TestBytes(t *testing.T) {
	for c := range 256 {
		for _, s := range []string{string([]byte{byte(c)}), string([]byte{'x', byte(c)}), string([]byte{'x', byte(c), 'y'}), string([]byte{byte(c), 'x'})} {
			p := examplePlan()
			p.Timings[0].Spans[0].Rings[0][0].Walks[0].Ped = s
			holdPlan(t, p)
			small := c >= 'a' && c <= 'z'
			begins := s[0] == 'x' || small
			if goesOn := small || c >= '0' && c <= '9' || c == '_'; Right(p) != (begins && goesOn) {
				t.Fatalf("%q: %t", s, Right(p))
			}
		}
	}
}

// Promises 17.2 and 17.3: each name that is one, at each place of a name.
func TestRightNames(t *testing.T) {
	right := []string{"a", "z", "q", "a_", "a0", "z9_", "a__", "x1y2", "cycles", "pla", "plans", "in_", "no1", "nodes", "maybe", "t", "end", "true", "nil",
		strings.Repeat("a", api.MaxName), "z" + strings.Repeat("_", api.MaxName-1), "z" + strings.Repeat("9", api.MaxName-1)}
	for _, w := range strings.Fields(reserved) {
		right = append(right, w+"_", "x"+w)
	}
	for _, s := range right {
		eachField(all(), reflect.String, func(name string, v reflect.Value, p *api.Plan) {
			v.SetString(s)
			printed(t, *p)
			holdPlan(t, *p)
		})
	}
}

// Promises 17.2 and 17.3: each number, at each edge.
func TestNumbersPrinted(t *testing.T) {
	const most = greatestNumber
	for _, x := range []int64{0, 1, 9, 10, 6000, most - 1, most, most + 1, most + 2, math.MaxInt64 - 1, math.MaxInt64, -1, -2, -10, -most, -most - 1, math.MinInt64 + 1, math.MinInt64} {
		times := eachField(all(), reflect.Int64, func(name string, v reflect.Value, p *api.Plan) {
			was := v.Int()
			v.SetInt(x)
			if right := x >= 0 && x <= most; right != Right(*p) {
				t.Fatalf("%d at %s: Right %t; want %t", x, name, Right(*p), right)
			}
			if Right(*p) {
				// There is no number twice in the plan, and none in a part of another word.
				fields := textsOf(allText)
				for i, w := range fields {
					if w == strconv.FormatInt(was, 10) {
						fields[i] = strconv.FormatInt(x, 10)
					}
				}
				if got := textsOf(printed(t, *p)); !slices.Equal(got, fields) {
					t.Fatalf("%d at %s: %v; want %v", x, name, got, fields)
				}
			}
			holdPlan(t, *p)
		})
		if times != 30 {
			t.Fatal("numbers:", times)
		}
	}
}

// Promise 17.2: as many of everything as there may be, one more, and as few as there may be.
func TestCounts(t *testing.T) {
	for _, c := range []struct {
		name        string
		least, most int
		put         func(p *api.Plan, n int)
	}{
		{"timings", 0, api.MaxNodes, func(p *api.Plan, n int) { p.Timings = many(p.Timings[1], n) }},
		{"groups", 0, api.MaxGroups, func(p *api.Plan, n int) { p.Timings[0].Spans = many(p.Timings[0].Spans[1], n) }},
		{"groups of the last node", 0, api.MaxGroups, func(p *api.Plan, n int) { p.Timings[1].Spans = many(p.Timings[0].Spans[1], n) }},
		{"rings", 1, api.MaxRings, func(p *api.Plan, n int) {
			g := &p.Timings[0].Spans[1]
			g.Rings = many(g.Rings[0], n)
		}},
		{"phases", 1, api.MaxRow, func(p *api.Plan, n int) {
			r := p.Timings[0].Spans[1].Rings
			r[0] = many(r[0][0], n)
		}},
		{"phases of a second ring", 1, api.MaxRow, func(p *api.Plan, n int) {
			r := p.Timings[0].Spans[0].Rings
			r[1] = many(r[1][0], n)
		}},
		{"walks", 0, api.MaxPeds, func(p *api.Plan, n int) {
			x := &p.Timings[0].Spans[0].Rings[0][0]
			x.Walks = many(x.Walks[1], n)
		}},
		{"walks of a last phase", 0, api.MaxPeds, func(p *api.Plan, n int) {
			p.Timings[0].Spans[1].Rings[0][0].Walks = many(p.Timings[0].Spans[0].Rings[0][0].Walks[1], n)
		}},
	} {
		for n := range 2*c.most + 3 {
			p := all()
			c.put(&p, n)
			if want := n >= c.least && n <= c.most; Right(p) != want {
				t.Fatalf("%d %s: Right %t", n, c.name, !want)
			}
			holdPlan(t, p)
		}
		p := all()
		c.put(&p, 100_000)
		hasNone(t, p)
	}
}

// Promise 17.2: a group without rings, a ring without phases, nil or of length 0, wherever they stand.
func TestEmpty(t *testing.T) {
	for _, wrong := range []func(*api.Timing){
		func(x *api.Timing) { x.Spans[0].Rings = nil },
		func(x *api.Timing) { x.Spans[1].Rings = [][]api.Slot{} },
		func(x *api.Timing) { x.Spans[0].Rings[0] = nil },
		func(x *api.Timing) { x.Spans[0].Rings[1] = []api.Slot{} },
		func(x *api.Timing) { x.Spans[1].Rings[0] = x.Spans[1].Rings[0][:0] },
		func(x *api.Timing) { x.Spans[1].Rings = append(x.Spans[1].Rings, nil) },
		func(x *api.Timing) { x.Spans = append(x.Spans, api.Span{}) },
		func(x *api.Timing) { x.Spans[0].Rings[1][0] = api.Slot{} },
		func(x *api.Timing) { x.Spans[0].Rings[0][1].Walks = []api.Walk{{}} },
	} {
		p := all()
		wrong(&p.Timings[0])
		hasNone(t, p)
		p = all()
		p.Timings[1] = all().Timings[0]
		printed(t, p)
		wrong(&p.Timings[1])
		hasNone(t, p)
	}
	hasNone(t, api.Plan{Timings: []api.Timing{{}}})
	p := all()
	p.Timings[0].Spans[0].Rings[0][1].Walks = []api.Walk{}
	bothWays(t, p, allText)
}

// widest tells a plan with as much of everything as there may be, each name and each number as long as may be.
func widest() api.Plan {
	const most = greatestNumber
	name := strings.Repeat("w", api.MaxName)
	slot := api.Slot{Phase: name, Split: most, Yellow: most, Red: most, Walks: many(api.Walk{Ped: name, Walk: most, Flash: most}, api.MaxPeds)}
	span := api.Span{Rings: many(many(slot, api.MaxRow), api.MaxRings)}
	timing := api.Timing{Node: name, Offset: most, Spans: many(span, api.MaxGroups), Sum: api.Frac{Num: most, Den: most}}
	whole := api.Window{Start: most, Width: most}
	return api.Plan{Cycle: most, Timings: many(timing, api.MaxNodes), Out: whole, In: whole, Best: true, Spent: most}
}

// Promises 17.2 and 17.3: a text may be too long to be read; it is printed all the same.
func TestTooLong(t *testing.T) {
	p := copyOf(widest())
	if text := printed(t, p); len(text) <= api.MaxText || text != textOf(p) {
		t.Fatal("a text of", len(text))
	}
	holdPlan(t, p)
	slot := api.Slot{Phase: "w", Walks: many(api.Walk{Ped: "w"}, 4)}
	span := api.Span{Rings: many(many(slot, api.MaxRow), api.MaxRings)}
	p = api.Plan{Timings: many(api.Timing{Node: "w", Spans: many(span, api.MaxGroups)}, api.MaxNodes)}
	for size := api.MaxText - 3; size <= api.MaxText+3; size++ {
		q := withSize(t, p, size)
		if text := printed(t, q); len(text) != size {
			t.Fatal("a text of", len(text))
		}
		holdPlan(t, q)
	}
}

// withSize lengthens names till the text is of a size.
func withSize(t *testing.T, p api.Plan, size int) api.Plan {
	t.Helper()
	p = copyOf(p)
	more := size - len(textOf(p))
	eachName(&p, func(s *string) {
		add := max(0, min(more, api.MaxName-len(*s)))
		*s += strings.Repeat("x", add)
		more -= add
	})
	if more != 0 {
		t.Fatal("bytes that are missing:", more)
	}
	return p
}

func eachName(p *api.Plan, do func(*string)) {
	for _, f := range fieldsOf(p) {
		if s, ok := f.value.Addr().Interface().(*string); ok {
			do(s)
		}
	}
}

// DOC.md's R4: what is handed in is not changed, nor what lies behind a list's end; what is handed out is new memory.
func TestKeepsNothing(t *testing.T) {
	b := append(make([]byte, 0, len(allText)+8), allText...)
	behind := b[len(b):cap(b)]
	copy(behind, "node b {")
	first, _, _ := Parse(b)
	if string(b) != allText || string(behind) != "node b {" {
		t.Fatal("the text was changed")
	}
	clear(b)
	if !same(first, all()) {
		t.Fatal("the plan hangs on the text:", first)
	}
	second, _, _ := Parse([]byte(allText))
	p := &first.Timings[0]
	p.Node, p.Spans[0].Rings[0][0].Walks[0].Ped, p.Spans[0].Rings[0][0].Phase = "x", "x", "x"
	p.Spans[1].Rings[0] = nil
	_ = append(p.Spans[0].Rings[0][0].Walks, api.Walk{Ped: "y"})
	_ = append(p.Spans[0].Rings[0], api.Slot{Phase: "y"})
	_ = append(p.Spans[0].Rings, nil)
	_ = append(p.Spans, api.Span{})
	if !same(second, all()) {
		t.Fatal("two plans share memory:", second)
	}
	text, _ := Print(second)
	again, _ := Print(second)
	clear(text)
	if string(again) != allText || !same(second, all()) {
		t.Fatal("two texts share memory")
	}
}

// DOC.md's R4: rows of a plan that end within what lies behind them are printed, and left, as they are.
func TestRowsWithRoom(t *testing.T) {
	whole := all()
	rows := whole.Timings[0].Spans[0].Rings[0]
	p := examplePlan()
	p.Timings[0].Spans[0].Rings[0] = rows[:1]
	p.Timings[0].Spans = append(whole.Timings[0].Spans[1:1], p.Timings[0].Spans[0])[:1]
	hasRoom := copyOf(whole)
	printed(t, p)
	holdPlan(t, p)
	if !reflect.DeepEqual(whole, hasRoom) {
		t.Fatal("what lies behind a row was changed")
	}
	bad := p
	bad.Timings = append(slices.Clone(p.Timings), api.Timing{})
	hasNone(t, bad)
}

// DOC.md's R5: calls hang on their arguments alone, whoever else calls.
func TestAgain(t *testing.T) {
	var g sync.WaitGroup
	shared := all()
	for i := range 8 {
		g.Go(func() {
			for range 50 {
				if p, e, at := Parse([]byte(allText)); e != api.OK || at != 0 || !same(p, shared) {
					t.Error(i, p, e, at)
				}
				if _, e, at := Parse([]byte(allText + "plan")); e != api.ErrWant || at != len(allText) {
					t.Error(i, e, at)
				}
				if b, e := Print(shared); e != api.OK || string(b) != allText || !Right(shared) {
					t.Error(i, string(b), e)
				}
				if _, e := Print(api.Plan{Cycle: -1}); e != api.ErrArg {
					t.Error(i, e)
				}
			}
		})
	}
	g.Wait()
}

// made tells a plan by chance; now and then something of it may not be.
func made(r *rand.Rand, wrong int) api.Plan {
	number := func() int64 {
		if wrong > 0 && r.Intn(wrong) == 0 {
			return []int64{-1, greatestNumber + 1, math.MinInt64, math.MaxInt64}[r.Intn(4)]
		}
		return []int64{0, 1, r.Int63n(100), r.Int63n(greatestNumber + 1), greatestNumber}[r.Intn(5)]
	}
	name := func() string {
		if wrong > 0 && r.Intn(wrong) == 0 {
			return []string{"", "node", "flash", "a b", "A", "1", "_"}[r.Intn(7)]
		}
		return []string{"a", "n1", "p_2", "walks", strings.Repeat("z", 1+r.Intn(api.MaxName))}[r.Intn(5)]
	}
	size := func(least, most int) int {
		if wrong > 0 && r.Intn(wrong) == 0 {
			return []int{0, most + 1}[r.Intn(2)]
		}
		return least + r.Intn(most-least+1)
	}
	frac := func() api.Frac { return api.Frac{Num: number(), Den: number()} }
	window := func() api.Window { return api.Window{Start: number(), Width: number()} }
	p := api.Plan{Cycle: number(), Out: window(), In: window(), Best: r.Intn(2) == 0, Spent: number()}
	for range size(0, 3) {
		t := api.Timing{Node: name(), Offset: number(), Sum: frac()}
		for range size(0, api.MaxGroups) {
			var s api.Span
			for range size(1, api.MaxRings) {
				var l []api.Slot
				for range size(1, api.MaxRow) {
					x := api.Slot{Phase: name(), Split: number(), Yellow: number(), Red: number()}
					for range size(0, 3) {
						x.Walks = append(x.Walks, api.Walk{Ped: name(), Walk: number(), Flash: number()})
					}
					l = append(l, x)
				}
				s.Rings = append(s.Rings, l)
			}
			t.Spans = append(t.Spans, s)
		}
		p.Timings = append(p.Timings, t)
	}
	return p
}

// Promises 17.2 and 17.3: plans by chance, with and without a text.
func TestByChance(t *testing.T) {
	r := rand.New(rand.NewSource(17))
	have := 0
	for i := range 3000 {
		p := made(r, []int{0, 30, 200, 1000}[i%4])
		if hasText(p) {
			have++
		}
		holdPlan(t, p)
	}
	if have < 800 || have > 2500 {
		t.Error("plans with a text:", have)
	}
}

// Promises 17.1 and 17.3: texts by chance: those of plans, with tokens that are changed, left out, put in or doubled; and such as the grammar leads to.
func TestTextsByChance(t *testing.T) {
	r := rand.New(rand.NewSource(71))
	vocabulary := strings.Fields(reserved + " { } , ; : / - n zz 7 0")
	for range 3000 {
		l := textsOf(textOf(made(r, 0)))
		for range 1 + r.Intn(2) {
			i, j := r.Intn(len(l)), r.Intn(len(l))
			switch r.Intn(4) {
			case 0:
				l[i] = vocabulary[r.Intn(len(vocabulary))]
			case 1:
				l = slices.Delete(l, i, i+1)
			case 2:
				l = slices.Insert(l, i, vocabulary[r.Intn(len(vocabulary))])
			case 3:
				from, to := min(i, j), min(max(i, j), min(i, j)+20)
				l = slices.Insert(l, to, slices.Clone(l[from:to])...)
			}
		}
		text := strings.Join(l, []string{" ", "\n", " #\n"}[r.Intn(3)])
		holdText(t, text[:min(len(text), api.MaxText+1)])
	}
	for range 3000 {
		holdText(t, wandered(r))
	}
}

// wandered tells a text in which each token is one that the grammar wants there, but for the last one.
func wandered(r *rand.Rand) string {
	vocabulary := strings.Fields(`plan cycle node offset sum group ring phase split yellow red walk flash out in best yes no spent / { } ; NAME NUM`)
	wanted := rules["plan"]
	text := ""
	for len(wanted) > 0 {
		var fit []string
		for _, w := range vocabulary {
			if len(behind(wanted, w)) > 0 {
				fit = append(fit, w)
			}
		}
		what := fit[r.Intn(len(fit))]
		wanted = behind(wanted, what)[0]
		word := map[string]string{"NAME": "n", "NUM": "7"}[what]
		if word == "" {
			word = what
		}
		text += word + " "
		if len(text) > 5000 || r.Intn(400) == 0 {
			return text + vocabulary[r.Intn(len(vocabulary)-2)]
		}
	}
	return text
}
