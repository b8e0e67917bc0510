package show

import (
	"fmt"
	"reflect"
	"regexp"
	"strings"
	"testing"

	"carrefour/api"
	"carrefour/net"
)

// What the package answers is held against the chapter's own words, told here in another way than the package's: which networks have a text is asked of each field of api's types, by its kind and its name; the text is told by one format a line.

// reserved are the words as chapter 4 lists them.
const reserved = "cycle to by peak node head volume flow use speed grade width length green walk with long pace least phase group ring free foe artery stop out in ahead back weights plan offset sum split yellow red flash best yes no spent"

var aWord = regexp.MustCompile(`\A[a-z][a-z0-9_]{0,23}\z`)

// counts tells how many there may be in each list.
var counts = map[string][2]int{
	"Net.Nodes": {0, 12}, "Net.Stops": {0, 12},
	"Node.Heads": {0, 16}, "Node.Peds": {0, 8}, "Node.Phases": {0, 16}, "Node.Groups": {0, 4}, "Node.Foes": {0, 64},
	"Phase.Heads": {1, 16}, "Group.Rings": {1, 2}, "Row.Phases": {1, 4},
}

// part is a field of a network, or of a part of it; or a name of a list.
type part struct {
	name  string
	value reflect.Value
}

// partsOf tells all parts in their order.
func partsOf(n *api.Net) []part { return partsIn("", reflect.ValueOf(n).Elem()) }

func partsIn(name string, v reflect.Value) []part {
	l := []part{{name, v}}
	switch v.Kind() {
	case reflect.Struct:
		for i := range v.NumField() {
			l = append(l, partsIn(v.Type().Name()+"."+v.Type().Field(i).Name, v.Field(i))...)
		}
	case reflect.Slice:
		for i := range v.Len() {
			l = append(l, partsIn(name+"[]", v.Index(i))...)
		}
	}
	return l
}

func isRight(p part) bool {
	v := p.value
	switch v.Kind() {
	case reflect.String:
		return aWord.MatchString(v.String()) && !strings.Contains(" "+reserved+" ", " "+v.String()+" ")
	case reflect.Int64:
		least := int64(0)
		if p.name == "Head.Grade" {
			least = -999_999_999_999_999_999
		}
		return v.Int() >= least && v.Int() <= 999_999_999_999_999_999
	case reflect.Slice:
		c, ok := counts[p.name]
		if !ok {
			panic("a list without counts: " + p.name)
		}
		return v.Len() >= c[0] && v.Len() <= c[1]
	}
	return true
}

// hasText tells whether the chapter gives a network a text.
func hasText(n api.Net) bool {
	for _, p := range partsOf(&n) {
		if !isRight(p) {
			return false
		}
	}
	return true
}

// textOf tells the text of a network that has one.
func textOf(n api.Net) string {
	var s strings.Builder
	line := func(form string, of ...any) { fmt.Fprintf(&s, form+"\n", of...) }
	line("cycle %d to %d by %d;", n.Min, n.Max, n.Step)
	line("peak %d/%d;", n.Peak.Num, n.Peak.Den)
	for _, x := range n.Nodes {
		line("node %s {", x.Name)
		for _, h := range x.Heads {
			line("  head %s volume %d flow %d use %d/%d speed %d grade %d width %d length %d green %d;", h.Name, h.Volume, h.Sat, h.Use.Num, h.Use.Den, h.Speed, h.Grade, h.Width, h.Length, h.Green)
		}
		for _, w := range x.Peds {
			line("  walk %s with %s long %d pace %d least %d;", w.Name, w.Phase, w.Long, w.Pace, w.Walk)
		}
		for _, p := range x.Phases {
			line("  phase %s: %s;", p.Name, strings.Join(p.Heads, ", "))
		}
		for _, g := range x.Groups {
			line("  group {")
			for _, r := range g.Rings {
				line("    ring %s%s;", map[bool]string{true: "free "}[r.Free], strings.Join(r.Phases, ", "))
			}
			line("  }")
		}
		for _, f := range x.Foes {
			line("  foe %s %s;", f.A, f.B)
		}
		line("}")
	}
	if len(n.Stops) == 0 && n.WOut == 0 && n.WIn == 0 {
		return s.String()
	}
	line("artery {")
	for _, x := range n.Stops {
		line("  stop %s out %s in %s ahead %d back %d;", x.Node, x.Out, x.In, x.Ahead, x.Back)
	}
	line("  weights %d %d;", n.WOut, n.WIn)
	line("}")
	return s.String()
}

// copyOf tells a network that shares no memory; its lists have room behind them.
func copyOf(n api.Net) api.Net {
	n.Nodes = copied(n.Nodes)
	for i := range n.Nodes {
		x := &n.Nodes[i]
		x.Heads, x.Peds, x.Foes = copied(x.Heads), copied(x.Peds), copied(x.Foes)
		x.Phases, x.Groups = copied(x.Phases), copied(x.Groups)
		for j := range x.Phases {
			x.Phases[j].Heads = copied(x.Phases[j].Heads)
		}
		for j := range x.Groups {
			g := &x.Groups[j]
			g.Rings = copied(g.Rings)
			for k := range g.Rings {
				g.Rings[k].Phases = copied(g.Rings[k].Phases)
			}
		}
	}
	n.Stops = copied(n.Stops)
	return n
}

func copied[T any](l []T) []T {
	if l == nil {
		return nil
	}
	return append(make([]T, 0, len(l)+2), l...)
}

// withPlaces tells a network with another place at each Pos, and none the same.
func withPlaces(n api.Net, first, step int) api.Net {
	n = copyOf(n)
	for _, p := range partsOf(&n) {
		if p.value.Kind() == reflect.Int {
			p.value.SetInt(int64(first))
			first += step
		}
	}
	return n
}

// plain forgets places, and that a list that is empty may be nil.
func plain(n api.Net) api.Net {
	n = withPlaces(n, 0, 0)
	for _, p := range partsOf(&n) {
		if p.value.Kind() == reflect.Slice && p.value.Len() == 0 {
			p.value.SetZero()
		}
	}
	return n
}

// hold asks of a network all that the chapter says of it.
func hold(t *testing.T, n api.Net) {
	t.Helper()
	if !hasText(n) {
		refused(t, n)
		return
	}
	before := copyOf(n)
	text := shown(t, n)
	if want := textOf(n); text != want {
		t.Fatalf("Show(%v):\n%s; want\n%s", n, text, want)
	}
	if !reflect.DeepEqual(n, before) {
		t.Fatalf("Show left %v; want %v", n, before)
	}
	readAgain(t, n, text)
}

// readAgain asks that a network's text is read as that network, and shown the same again.
func readAgain(t *testing.T, n api.Net, text string) {
	t.Helper()
	m, e, at := net.Parse([]byte(text))
	if len(text) > api.MaxText {
		if e != api.ErrLong || at != api.MaxText {
			t.Fatalf("a text of %d bytes: error %d at %d", len(text), e, at)
		}
		return
	}
	if e != api.OK || !reflect.DeepEqual(plain(m), plain(n)) {
		t.Fatalf("Show(%v):\n%s is read as %v, error %d at %d", n, text, m, e, at)
	}
	if again := shown(t, m); again != text {
		t.Fatalf("%s is shown again as\n%s", text, again)
	}
}

func shown(t *testing.T, n api.Net) string {
	t.Helper()
	b, e := Show(n)
	if e != api.OK || !Right(n) {
		t.Fatalf("Show(%v): error %d, Right %t; want a text", n, e, Right(n))
	}
	return string(b)
}

func refused(t *testing.T, n api.Net) {
	t.Helper()
	before := copyOf(n)
	if b, e := Show(n); e != api.ErrArg || len(b) != 0 || Right(n) {
		t.Fatalf("Show(%v): %q, error %d, Right %t; want ErrArg alone", n, b, e, Right(n))
	}
	if !reflect.DeepEqual(n, before) {
		t.Fatalf("Show left %v; want %v", n, before)
	}
}
