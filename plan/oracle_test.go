package plan

import (
	"fmt"
	"reflect"
	"regexp"
	"slices"
	"strings"
	"testing"

	"carrefour/api"
	"carrefour/lex"
)

// What the package answers is held against the chapter's own words, told here in another way than the package's: the grammar below is the chapter's, word by word, and a text is read by what it still wants behind each token; which plans have a text is asked of each field of api's types, by its kind and its name; the text is told by one format a line.

const grammar = `
    plan    = "plan" "cycle" NUM ";" timing* "out" NUM NUM ";" "in" NUM NUM ";" "best" ("yes" | "no") ";" "spent" NUM ";"
    timing  = "node" NAME "offset" NUM "sum" NUM "/" NUM "{" group* "}"
    group   = "group" "{" ring+ "}"
    ring    = "ring" "{" phase+ "}"
    phase   = "phase" NAME "split" NUM "yellow" NUM "red" NUM walk* ";"
    walk    = "walk" NAME NUM "flash" NUM
`

// reserved are the words as chapter 4 lists them.
const reserved = "cycle to by peak node head volume flow use speed grade width length green walk with long pace least phase group ring free foe artery stop out in ahead back weights plan offset sum split yellow red flash best yes no spent"

const greatestNumber = 999_999_999_999_999_999

var part = regexp.MustCompile(`\([^)]*\)|"[^"]+"|[A-Za-z]+[*+]?`)

var rules = func() map[string][]string {
	m := map[string][]string{}
	for _, line := range strings.Split(strings.TrimSpace(grammar), "\n") {
		name, body, _ := strings.Cut(line, " = ")
		m[strings.TrimSpace(name)] = part.FindAllString(body, -1)
	}
	return m
}()

// behind tells what is wanted behind a token, where parts of rules were wanted ahead of it; there may be several ways, or none.
func behind(parts []string, what string) [][]string {
	if len(parts) == 0 {
		return nil
	}
	first, rest := parts[0], parts[1:]
	if thing, ok := strings.CutSuffix(first, "*"); ok {
		one := behind(slices.Concat(rules[thing], parts), what)
		return append(one, behind(rest, what)...)
	}
	if thing, ok := strings.CutSuffix(first, "+"); ok {
		return behind(slices.Concat(rules[thing], []string{thing + "*"}, rest), what)
	}
	if first == what || strings.Contains(first, `"`+what+`"`) {
		return [][]string{rest}
	}
	return nil
}

var isReserved = func() map[string]bool {
	m := map[string]bool{}
	for _, w := range strings.Fields(reserved) {
		m[w] = true
	}
	return m
}()

func whatIs(x api.Token) string {
	switch {
	case x.Kind == api.TNum:
		return "NUM"
	case x.Kind == api.TWord && !isReserved[x.Text]:
		return "NAME"
	case x.Kind == api.TEnd:
		return "the end"
	}
	return x.Text
}

// within tells which words begin things anew within each thing, and how many of it there may be.
var within = map[string]struct {
	words string
	most  int
}{
	"node": {"group", 12}, "group": {"ring", 4}, "ring": {"phase", 2}, "phase": {"walk", 4}, "walk": {"", 8},
}

// verdict tells what the chapter says of a text.
func verdict(text string) (api.Errno, int) {
	l, e, place := lex.Tokens([]byte(text))
	if e != api.OK {
		return e, place
	}
	wanted := append(slices.Clone(rules["plan"]), `"the end"`)
	counts := map[string]int{}
	for _, x := range l {
		ways := behind(wanted, whatIs(x))
		if len(ways) > 1 {
			panic("several ways go on")
		}
		if len(ways) == 0 {
			return api.ErrWant, x.Pos
		}
		wanted = ways[0]
		if thing, ok := within[x.Text]; ok && x.Kind == api.TWord {
			counts[x.Text]++
			counts[thing.words] = 0
			if counts[x.Text] > thing.most {
				return api.ErrLong, x.Pos
			}
		}
	}
	return api.OK, 0
}

// field is a field of a plan, or of a part of it; or what stands in a list.
type field struct {
	name  string
	value reflect.Value
}

// fieldsOf tells all fields in their order.
func fieldsOf(p *api.Plan) []field { return fieldsIn("", reflect.ValueOf(p).Elem()) }

func fieldsIn(name string, v reflect.Value) []field {
	l := []field{{name, v}}
	switch v.Kind() {
	case reflect.Struct:
		for i := range v.NumField() {
			l = append(l, fieldsIn(v.Type().Name()+"."+v.Type().Field(i).Name, v.Field(i))...)
		}
	case reflect.Slice:
		for i := range v.Len() {
			l = append(l, fieldsIn(name+"[]", v.Index(i))...)
		}
	}
	return l
}

// counts tells how many there may be in each list.
var counts = map[string][2]int{
	"Plan.Timings": {0, 12}, "Timing.Spans": {0, 4}, "Span.Rings": {1, 2}, "Span.Rings[]": {1, 4}, "Slot.Walks": {0, 8},
}

var aWord = regexp.MustCompile(`\A[a-z][a-z0-9_]{0,23}\z`)

func isRight(f field) bool {
	v := f.value
	switch v.Kind() {
	case reflect.String:
		return aWord.MatchString(v.String()) && !isReserved[v.String()]
	case reflect.Int64:
		return v.Int() >= 0 && v.Int() <= greatestNumber
	case reflect.Slice:
		c, ok := counts[f.name]
		if !ok {
			panic("a list without counts: " + f.name)
		}
		return v.Len() >= c[0] && v.Len() <= c[1]
	}
	return true
}

// hasText tells whether the chapter gives a plan a text.
func hasText(p api.Plan) bool {
	for _, f := range fieldsOf(&p) {
		if !isRight(f) {
			return false
		}
	}
	return true
}

// textOf tells the text of a plan that has one.
func textOf(p api.Plan) string {
	var s strings.Builder
	line := func(form string, of ...any) { fmt.Fprintf(&s, form+"\n", of...) }
	line("plan cycle %d;", p.Cycle)
	for _, t := range p.Timings {
		line("node %s offset %d sum %d/%d {", t.Node, t.Offset, t.Sum.Num, t.Sum.Den)
		for _, g := range t.Spans {
			line("  group {")
			for _, r := range g.Rings {
				line("    ring {")
				for _, x := range r {
					walks := ""
					for _, w := range x.Walks {
						walks += fmt.Sprintf(" walk %s %d flash %d", w.Ped, w.Walk, w.Flash)
					}
					line("      phase %s split %d yellow %d red %d%s;", x.Phase, x.Split, x.Yellow, x.Red, walks)
				}
				line("    }")
			}
			line("  }")
		}
		line("}")
	}
	line("out %d %d;", p.Out.Start, p.Out.Width)
	line("in %d %d;", p.In.Start, p.In.Width)
	line("best %s;", map[bool]string{true: "yes", false: "no"}[p.Best])
	line("spent %d;", p.Spent)
	return s.String()
}

// copyOf tells a plan that shares no memory; its lists have room behind them.
func copyOf(p api.Plan) api.Plan {
	p.Timings = copied(p.Timings)
	for i := range p.Timings {
		spans := copied(p.Timings[i].Spans)
		p.Timings[i].Spans = spans
		for j := range spans {
			rings := copied(spans[j].Rings)
			spans[j].Rings = rings
			for k := range rings {
				rings[k] = copied(rings[k])
				for n := range rings[k] {
					rings[k][n].Walks = copied(rings[k][n].Walks)
				}
			}
		}
	}
	return p
}

func copied[T any](l []T) []T {
	if l == nil {
		return nil
	}
	return append(make([]T, 0, len(l)+2), l...)
}

// plain forgets that a list that is empty may be nil.
func plain(p api.Plan) api.Plan {
	p = copyOf(p)
	for _, f := range fieldsOf(&p) {
		if f.value.Kind() == reflect.Slice && f.value.Len() == 0 {
			f.value.SetZero()
		}
	}
	return p
}

func same(p, q api.Plan) bool { return reflect.DeepEqual(plain(p), plain(q)) }

// tokensOf tells tokens but their places; of a number its worth alone counts.
func tokensOf(t *testing.T, text string) []api.Token {
	t.Helper()
	l, e, place := lex.Tokens([]byte(text))
	if e != api.OK {
		t.Fatalf("%q: error %d at %d", text, e, place)
	}
	for i := range l {
		l[i].Pos = 0
		if l[i].Kind == api.TNum {
			l[i].Text = ""
		}
	}
	return l
}

// holdText asks of a text all that the chapter says of it.
func holdText(t *testing.T, text string) {
	t.Helper()
	p, e, at := Parse([]byte(text))
	want, place := verdict(text)
	if e != want || at != place {
		t.Fatalf("Parse(%q): error %d at %d; want %d at %d", text, e, at, want, place)
	}
	if e != api.OK {
		if !reflect.DeepEqual(p, api.Plan{}) {
			t.Fatalf("Parse(%q): error %d, with %v; want nothing beside an error", text, e, p)
		}
		return
	}
	if !hasText(p) || !slices.Equal(tokensOf(t, textOf(p)), tokensOf(t, text)) {
		t.Fatalf("Parse(%q): %v", text, p)
	}
	// What is read is printed to a text that is read as the same.
	holdPlan(t, p)
}

// holdPlan asks of a plan all that the chapter says of it.
func holdPlan(t *testing.T, p api.Plan) {
	t.Helper()
	if !hasText(p) {
		hasNone(t, p)
		return
	}
	before := copyOf(p)
	text := printed(t, p)
	if want := textOf(p); text != want {
		t.Fatalf("Print(%v):\n%s; want\n%s", p, text, want)
	}
	if !reflect.DeepEqual(p, before) {
		t.Fatalf("Print left %v; want %v", p, before)
	}
	readAgain(t, p, text)
}

// readAgain asks that a plan's text is read as that plan.
func readAgain(t *testing.T, p api.Plan, text string) {
	t.Helper()
	q, e, at := Parse([]byte(text))
	if len(text) > api.MaxText {
		if e != api.ErrLong || at != api.MaxText {
			t.Fatalf("a text of %d bytes: error %d at %d", len(text), e, at)
		}
		return
	}
	if e != api.OK || at != 0 || !same(p, q) {
		t.Fatalf("%v\nis printed\n%s\nand read as %v, error %d at %d", p, text, q, e, at)
	}
	if again := printed(t, q); again != text {
		t.Fatalf("printed again:\n%s; want\n%s", again, text)
	}
}

func printed(t *testing.T, p api.Plan) string {
	t.Helper()
	text, e := Print(p)
	if e != api.OK || !Right(p) {
		t.Fatalf("Print(%v): error %d, Right %t", p, e, Right(p))
	}
	return string(text)
}

func hasNone(t *testing.T, p api.Plan) {
	t.Helper()
	before := copyOf(p)
	if text, e := Print(p); e != api.ErrArg || len(text) != 0 || Right(p) {
		t.Fatalf("Print(%v): %q, error %d, Right %t; want none, ErrArg", p, text, e, Right(p))
	}
	if !reflect.DeepEqual(p, before) {
		t.Fatalf("Print left %v; want %v", p, before)
	}
}

func refused(t *testing.T, text string, want api.Errno, place int) {
	t.Helper()
	p, e, at := Parse([]byte(text))
	if e != want || at != place || !reflect.DeepEqual(p, api.Plan{}) {
		t.Errorf("Parse(%q): %v, error %d at %d; want nothing, %d at %d", text, p, e, at, want, place)
	}
	holdText(t, text)
}

func told(t *testing.T, text string) api.Plan {
	t.Helper()
	p, e, at := Parse([]byte(text))
	if e != api.OK || at != 0 {
		t.Fatalf("Parse(%q): error %d at %d", text, e, at)
	}
	holdText(t, text)
	return p
}
