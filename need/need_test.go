package need

import (
	"math"
	"math/big"
	"math/rand"
	"reflect"
	"slices"
	"strconv"
	"strings"
	"testing"

	"carrefour/api"
	"carrefour/net"
	"carrefour/valid"
)

func fr(n, d int64) api.Frac { return api.Frac{Num: n, Den: d} }

// read tells a network in memory of its own.
func read(t *testing.T, text string) api.Net {
	t.Helper()
	n, e, at := net.Parse([]byte(text))
	if e != api.OK {
		t.Fatalf("%s: error %d at %d", text, e, at)
	}
	return n
}

// sameNeeds holds needs against others; of empty lists it does not matter whether they are nil.
func sameNeeds(a, b []api.Need) bool {
	return slices.EqualFunc(a, b, func(p, q api.Need) bool {
		alike := slices.Equal(p.Walks, q.Walks)
		p.Walks, q.Walks = nil, nil
		return alike && reflect.DeepEqual(p, q)
	})
}

func holdNeeds(t *testing.T, n api.Net, i int, want ...api.Need) {
	t.Helper()
	if got, e := Of(n, i); e != api.OK || !sameNeeds(got, want) {
		t.Fatalf("node %d: %v, error %d; want %v", i, got, e, want)
	}
}

func holdRefused(t *testing.T, n api.Net, i int, want api.Errno) {
	t.Helper()
	if got, e := Of(n, i); e != want || len(got) != 0 {
		t.Fatalf("node %d: %v, error %d; want none, error %d", i, got, e, want)
	}
}

// Promise 10.1: the chapter's example, with its walk and without.
func TestExample(t *testing.T) {
	const text = `cycle 600 to 900 by 10; peak 1/1; node a {
		head n volume 400 flow 1600 use 1/1 speed 1500 grade 0 width 1800 length 600 green 70;
		WALK phase p: n; group { ring p; } }`
	with := strings.Replace(text, "WALK", "walk w with p long 1500 pace 120 least 70;", 1)
	holdNeeds(t, read(t, with), 0, api.Need{Phase: "p", Green: 195, Yellow: 35, Red: 16, Ratio: fr(1, 4), Walks: []api.Walk{{Ped: "w", Walk: 70, Flash: 125}}})
	holdNeeds(t, read(t, strings.Replace(text, "WALK", "", 1)), 0, api.Need{Phase: "p", Green: 70, Yellow: 35, Red: 16, Ratio: fr(1, 4)})
}

// town has phases of one head and of several, of which each has the greatest of one thing, and names that phases, heads and walks share; the phases' heads stand in another order than the node's.
const town = `cycle 600 to 1200 by 10; peak 9/10;
node a {
	head n volume 100 flow 1000 use 1/1 speed 1000 grade 0 width 600 length 400 green 50;
	head s volume 450 flow 1000 use 1/1 speed 500 grade 0 width 100 length 100 green 40;
	head p volume 90 flow 1000 use 1/1 speed 1500 grade 0 width 600 length 0 green 30;
	head e volume 0 flow 1000 use 1/1 speed 1000 grade -20 width 0 length 0 green 1;
	head w volume 10 flow 900 use 21/20 speed 1000 grade 0 width 10 length 980 green 60;
	walk u with q long 100 pace 100 least 40;
	walk n with p long 120 pace 120 least 45;
	walk v with q long 400 pace 100 least 21;
	walk q with p long 90 pace 120 least 47;
	phase q: w;
	phase n: e;
	phase p: p, s, n;
	group { ring free q, n; }
	group { ring p; }
	foe n e; foe w s; }
node b {
	head n volume 900 flow 900 use 1/1 speed 1000 grade 0 width 0 length 0 green 7;
	phase n: n;
	group { ring n; } }
artery { stop a out n in s ahead 0 back 0; stop b out n in n ahead 300 back 310; weights 2 1; }`

func needsOfTown() []api.Need {
	return []api.Need{
		{Phase: "q", Green: 61, Yellow: 27, Red: 10, Ratio: fr(7, 540), Walks: []api.Walk{{Ped: "u", Walk: 40, Flash: 10}, {Ped: "v", Walk: 21, Flash: 40}}},
		{Phase: "n", Green: 1, Yellow: 28, Red: 0, Ratio: fr(0, 1)},
		{Phase: "p", Green: 55, Yellow: 35, Red: 10, Ratio: fr(1, 2), Walks: []api.Walk{{Ped: "n", Walk: 45, Flash: 10}, {Ped: "q", Walk: 47, Flash: 8}}},
	}
}

// Promise 10.1: phases in their order, each with the greatest of all its heads, and its walks in the node's order.
func TestOrdinary(t *testing.T) {
	n := read(t, town)
	holdNeeds(t, n, 0, needsOfTown()...)
	holdNeeds(t, n, 1, api.Need{Phase: "n", Green: 7, Yellow: 27, Red: 0, Ratio: fr(10, 9)})
}

// Promise 10.1: whichever head of a phase, first, in the midst or last, has the greatest of each thing, of one or of all.
func TestEachHeadTheGreatest(t *testing.T) {
	for _, order := range []string{"p, s, n", "p, n, s", "s, p, n", "s, n, p", "n, s, p", "n, p, s"} {
		n := read(t, strings.Replace(town, "phase p: p, s, n;", "phase p: "+order+";", 1))
		holdNeeds(t, n, 0, needsOfTown()...)
	}
	for place := range 3 {
		n := read(t, town)
		h := &n.Nodes[0].Heads[place]
		h.Volume, h.Speed, h.Grade, h.Length, h.Green = 1800, 2000, -100, 100000, 500
		want := needsOfTown()
		want[2].Green, want[2].Ratio = 500, fr(2, 1)
		want[2].Yellow = 59                   // 10 + 20000 / (610 - 196.2) = 58.3..
		want[2].Red = 500 + (h.Width+199)/200 // 10 (width + 100000) / 2000
		holdNeeds(t, n, 0, want...)
	}
}

// Promise 10.1: a walk and its flashing count together, the longest one of all, just as long as a green, less and more.
func TestWalksAndGreens(t *testing.T) {
	n := read(t, town)
	x := &n.Nodes[0]
	for _, r := range []struct{ green, first, second, want int64 }{
		{60, 40, 21, 61}, {61, 40, 21, 61}, {62, 40, 21, 62},
		{60, 50, 19, 60}, {60, 51, 21, 61}, {60, 52, 21, 62}, {60, 52, 23, 63},
		{1, 1, 1, 41}, {60, 49, 20, 60}, {60, 50, 20, 60},
		{api.MaxTime, 1, 1, api.MaxTime}, {1, api.MaxTime, 1, api.MaxTime + 10}, {1, 1, api.MaxTime, api.MaxTime + 40},
	} {
		x.Heads[4].Green, x.Peds[0].Walk, x.Peds[2].Walk = r.green, r.first, r.second
		want := needsOfTown()
		want[0].Green, want[0].Walks[0].Walk, want[0].Walks[1].Walk = r.want, r.first, r.second
		holdNeeds(t, n, 0, want...)
	}
}

// Promise 10.1: at the bounds of all numbers.
func TestBounds(t *testing.T) {
	n := read(t, town)
	n.Peak = fr(1, 1)
	x := &n.Nodes[1]
	x.Heads = []api.Head{{Name: "n", Volume: api.MaxVolume, Sat: 1, Use: fr(api.MaxVolume, 1), Speed: 1, Grade: api.MaxGrade, Width: api.MaxSize, Length: api.MaxSize, Green: 1}}
	x.Peds = []api.Ped{{Name: "u", Phase: "n", Long: api.MaxSize, Pace: 1, Walk: api.MaxTime}, {Name: "v", Phase: "n", Long: 1, Pace: api.MaxSpeed, Walk: 1}}
	walks := []api.Walk{{Ped: "u", Walk: api.MaxTime, Flash: 10 * api.MaxSize}, {Ped: "v", Walk: 1, Flash: 1}}
	holdNeeds(t, n, 1, api.Need{Phase: "n", Green: api.MaxTime + 10*api.MaxSize, Yellow: 11, Red: 20 * api.MaxSize, Ratio: fr(1e18, 1), Walks: walks})
	x.Heads[0] = api.Head{Name: "n", Volume: 1, Sat: api.MaxVolume, Use: fr(1, api.MaxVolume), Speed: api.MaxSpeed, Grade: -api.MaxGrade, Green: api.MaxTime}
	x.Peds = x.Peds[1:]
	holdNeeds(t, n, 1, api.Need{Phase: "n", Green: api.MaxTime, Yellow: 470, Red: 0, Ratio: fr(1, 1e18), Walks: walks[1:]})
}

// Promise 10.1: what is no place of a node, of one, of several, of none.
func TestNoPlace(t *testing.T) {
	n := read(t, town)
	for _, i := range []int{-1, 2, 3, math.MinInt, math.MaxInt} {
		holdRefused(t, n, i, api.ErrArg)
	}
	n.Nodes, n.Stops = n.Nodes[:1], nil // what lies behind the end is no node
	holdNeeds(t, n, 0, needsOfTown()...)
	for _, i := range []int{-1, 1, 2} {
		holdRefused(t, n, i, api.ErrArg)
	}
	for _, i := range []int{-1, 0, 1} {
		holdRefused(t, api.Net{}, i, api.ErrArg)
	}
}

// wrongs make the network town one that may not be, in the whole, in the first node, in the second one and in the artery.
func wrongs() map[string]func(*api.Net) {
	return map[string]func(*api.Net){
		"Min":                   func(n *api.Net) { n.Min = 0 },
		"Peak":                  func(n *api.Net) { n.Peak.Den = 0 },
		"WIn":                   func(n *api.Net) { n.WIn = -1 },
		"too many nodes":        func(n *api.Net) { n.Nodes = append(n.Nodes, make([]api.Node, api.MaxNodes)...) },
		"a node twice":          func(n *api.Net) { n.Nodes[1].Name = "a" },
		"no head":               func(n *api.Net) { n.Nodes[1].Heads = nil },
		"no phase":              func(n *api.Net) { n.Nodes[1].Phases = nil },
		"no group":              func(n *api.Net) { n.Nodes[0].Groups = nil },
		"Speed":                 func(n *api.Net) { n.Nodes[0].Heads[0].Speed = 0 },
		"Grade":                 func(n *api.Net) { n.Nodes[1].Heads[0].Grade = -api.MaxGrade - 1 },
		"Sat":                   func(n *api.Net) { n.Nodes[0].Heads[0].Sat = 0 },
		"Green":                 func(n *api.Net) { n.Nodes[1].Heads[0].Green = 0 },
		"a head twice":          func(n *api.Net) { n.Nodes[0].Heads[1].Name = "n" },
		"a head in two phases":  func(n *api.Net) { n.Nodes[0].Phases[0].Heads = []string{"w", "e"} },
		"a phase of no head":    func(n *api.Net) { n.Nodes[0].Phases[0].Heads = nil },
		"a phase of no such":    func(n *api.Net) { n.Nodes[1].Phases[0].Heads = []string{"m"} },
		"a phase in no ring":    func(n *api.Net) { n.Nodes[0].Groups = n.Nodes[0].Groups[:1] },
		"a walk with no phase":  func(n *api.Net) { n.Nodes[0].Peds[0].Phase = "w" },
		"Pace":                  func(n *api.Net) { n.Nodes[0].Peds[3].Pace = 0 },
		"a head is its own foe": func(n *api.Net) { n.Nodes[0].Foes[1] = api.Foe{A: "n", B: "n"} },
		"a stop at no node":     func(n *api.Net) { n.Stops[1].Node = "c" },
		"Ahead":                 func(n *api.Net) { n.Stops[0].Ahead = 1 },
	}
}

// Promise 10.1: a network that may not be, wherever it is wrong, and whichever node is asked for.
func TestMayNotBe(t *testing.T) {
	for name, put := range wrongs() {
		n := read(t, town)
		put(&n)
		if e, _ := valid.Check(n); e == api.OK {
			t.Fatal(name, "is not wrong")
		}
		for _, i := range []int{-1, 0, 1, 2} {
			if got, e := Of(n, i); e != api.ErrArg || len(got) != 0 {
				t.Errorf("%s, node %d: %v, error %d", name, i, got, e)
			}
		}
	}
}

// tooGreat makes a head's ratio one that does not fit, in a network whose Peak is low makes: those of the others fit.
func tooGreat(h *api.Head) { h.Volume, h.Use = api.MaxVolume, fr(api.MaxVolume, 1) }

func low(n *api.Net) { n.Peak = fr(1, api.MaxVolume) }

// Promise 10.1: a ratio that is refused, of the first head, one in the midst, the last one, of each phase; but not of another node's.
func TestRatioRefused(t *testing.T) {
	n := read(t, town)
	low(&n)
	want, e := Of(n, 0)
	if e != api.OK {
		t.Fatal(e)
	}
	for place := range n.Nodes[0].Heads {
		n := read(t, town)
		low(&n)
		tooGreat(&n.Nodes[0].Heads[place])
		holdRefused(t, n, 0, api.ErrOver)
		holdNeeds(t, n, 1, api.Need{Phase: "n", Green: 7, Yellow: 27, Red: 0, Ratio: fr(api.MaxVolume, 1)})
	}
	tooGreat(&n.Nodes[1].Heads[0])
	holdNeeds(t, n, 0, want...)
	holdRefused(t, n, 1, api.ErrOver)
}

// Promise 10.1, rule R2: ErrArg is told ahead of a ratio that is refused.
func TestErrArgAhead(t *testing.T) {
	n := read(t, town)
	low(&n)
	for i := range n.Nodes {
		tooGreat(&n.Nodes[i].Heads[0])
	}
	holdRefused(t, n, 0, api.ErrOver)
	holdRefused(t, n, -1, api.ErrArg)
	holdRefused(t, n, 2, api.ErrArg)
	n.Stops[0].Back = 1
	holdRefused(t, n, 0, api.ErrArg)
	holdRefused(t, n, 1, api.ErrArg)
}

// ceiling tells the least whole number that is not below r, for r from 0 on.
func ceiling(r *big.Rat) int64 {
	q, rest := new(big.Int).QuoRem(r.Num(), r.Denom(), new(big.Int))
	if rest.Sign() > 0 {
		q.Add(q, big.NewInt(1))
	}
	return q.Int64()
}

// told tells by math/big, and by going over heads and walks instead of phases, what Of answers; false, if a ratio is refused. (The phase of a head is told beside.)
func told(n api.Net, x api.Node, home map[string]string) ([]api.Need, bool) {
	needs := map[string]*api.Need{}
	for _, p := range x.Phases {
		needs[p.Name] = &api.Need{Phase: p.Name, Ratio: fr(0, 1)}
	}
	for _, h := range x.Heads {
		need := needs[home[h.Name]]
		slow := new(big.Rat).Add(big.NewRat(610, 1), big.NewRat(1962*h.Grade, 1000))
		yellow := new(big.Rat).Add(big.NewRat(10, 1), new(big.Rat).Quo(big.NewRat(10*h.Speed, 1), slow))
		ratio := new(big.Rat).Mul(big.NewRat(h.Volume, 1), big.NewRat(h.Use.Num, h.Use.Den))
		ratio.Quo(ratio, big.NewRat(n.Peak.Num, n.Peak.Den))
		fits := ratio.Num().IsInt64() && ratio.Denom().IsInt64()
		ratio.Quo(ratio, big.NewRat(h.Sat, 1))
		if !fits || !ratio.Num().IsInt64() || !ratio.Denom().IsInt64() {
			return nil, false
		}
		need.Green = max(need.Green, h.Green)
		need.Yellow = max(need.Yellow, ceiling(yellow))
		need.Red = max(need.Red, ceiling(big.NewRat(10*(h.Width+h.Length), h.Speed)))
		if ratio.Cmp(big.NewRat(need.Ratio.Num, need.Ratio.Den)) > 0 {
			need.Ratio = fr(ratio.Num().Int64(), ratio.Denom().Int64())
		}
	}
	for _, w := range x.Peds {
		flash := ceiling(big.NewRat(10*w.Long, w.Pace))
		need := needs[w.Phase]
		need.Green = max(need.Green, w.Walk+flash)
		need.Walks = append(need.Walks, api.Walk{Ped: w.Name, Walk: w.Walk, Flash: flash})
	}
	var l []api.Need
	for _, p := range x.Phases {
		l = append(l, *needs[p.Name])
	}
	return l, true
}

// names are so many, in an order by chance; phases, heads and walks take theirs from the same ones.
func names(r *rand.Rand, many int) []string {
	l := make([]string, many)
	for i, k := range r.Perm(many) {
		l[i] = "n" + strconv.Itoa(k)
	}
	return l
}

// upTo tells a number from least to most, oftener a low one.
func upTo(r *rand.Rand, least, most int64) int64 {
	for range r.Intn(4) {
		most = least + r.Int63n(most-least+1)
	}
	return most
}

func someHead(r *rand.Rand, name string) api.Head {
	return api.Head{
		Name: name, Volume: upTo(r, 0, api.MaxVolume), Sat: upTo(r, 1, api.MaxVolume), Use: fr(upTo(r, 1, 1e6), upTo(r, 1, 1e6)),
		Speed: upTo(r, 1, api.MaxSpeed), Grade: r.Int63n(2*api.MaxGrade+1) - api.MaxGrade,
		Width: upTo(r, 0, api.MaxSize), Length: upTo(r, 0, api.MaxSize), Green: upTo(r, 1, api.MaxTime),
	}
}

// place is where a phase of a node stands: its group, its ring there, its place there.
type place struct{ group, ring, at int }

// made is a node with, beside it, each head's phase and each phase's place.
type made struct {
	x     api.Node
	home  map[string]string
	where map[string]place
}

// someNode tells a node of a network that may be.
func someNode(r *rand.Rand, name string) made {
	m := made{api.Node{Name: name}, map[string]string{}, map[string]place{}}
	for _, s := range names(r, 1+r.Intn(api.MaxHeads)) {
		m.x.Heads = append(m.x.Heads, someHead(r, s))
	}
	for _, s := range names(r, 1+r.Intn(len(m.x.Heads))) {
		m.x.Phases = append(m.x.Phases, api.Phase{Name: s})
	}
	for i, k := range r.Perm(len(m.x.Heads)) {
		p := &m.x.Phases[i%len(m.x.Phases)] // each has one at least
		if i >= len(m.x.Phases) {
			p = &m.x.Phases[r.Intn(len(m.x.Phases))]
		}
		p.Heads = append(p.Heads, m.x.Heads[k].Name)
		m.home[m.x.Heads[k].Name] = p.Name
	}
	for _, s := range names(r, r.Intn(api.MaxPeds+1)) {
		with := m.x.Phases[r.Intn(len(m.x.Phases))].Name
		m.x.Peds = append(m.x.Peds, api.Ped{Name: s, Phase: with, Long: upTo(r, 1, api.MaxSize), Pace: upTo(r, 1, api.MaxSpeed), Walk: upTo(r, 1, api.MaxTime)})
	}
	m.ring(r)
	m.embroil(r)
	return m
}

// ring puts the phases into rings of groups, in an order by chance: as few groups as can be, or more.
func (m *made) ring(r *rand.Rand) {
	left := r.Perm(len(m.x.Phases))
	const most = api.MaxRings * api.MaxRow
	for k := 0; len(left) > 0; k++ {
		needed := len(left) - most*(api.MaxGroups-1-k) // what the groups behind can't take
		many := max(1, needed, min(len(left), r.Intn(most+1)))
		cut := many
		if many > api.MaxRow || many > 1 && r.Intn(4) > 0 {
			cut = max(1, many-api.MaxRow) + r.Intn(min(many-1, api.MaxRow)-max(1, many-api.MaxRow)+1)
		}
		var g api.Group
		for j, row := range [][]int{left[:cut], left[cut:many]} {
			if len(row) > 0 {
				g.Rings = append(g.Rings, m.row(place{k, j, 0}, row, r.Intn(2) > 0))
			}
		}
		m.x.Groups, left = append(m.x.Groups, g), left[many:]
	}
}

func (m *made) row(at place, phases []int, free bool) api.Row {
	row := api.Row{Free: free}
	for _, k := range phases {
		at.at = len(row.Phases)
		m.where[m.x.Phases[k].Name] = at
		row.Phases = append(row.Phases, m.x.Phases[k].Name)
	}
	return row
}

// embroil tells foes, of heads of two phases, at times once more or the other way round.
func (m *made) embroil(r *rand.Rand) {
	for range r.Intn(api.MaxFoes + 1) {
		a, b := m.x.Heads[r.Intn(len(m.x.Heads))].Name, m.x.Heads[r.Intn(len(m.x.Heads))].Name
		if m.home[a] != m.home[b] {
			m.x.Foes = append(m.x.Foes, api.Foe{A: a, B: b})
		}
	}
}

// someNet tells a network that may be, and its nodes with what is known of them.
func someNet(t *testing.T, r *rand.Rand) (api.Net, []made) {
	t.Helper()
	n := api.Net{Min: 1, Max: api.MaxTime, Step: 1, Peak: fr(upTo(r, 1, 1e6), upTo(r, 1, 1e6))}
	var l []made
	for _, s := range names(r, 1+r.Intn(3)) {
		m := someNode(r, s)
		n.Nodes, l = append(n.Nodes, m.x), append(l, m)
	}
	if e, at := valid.Check(n); e != api.OK {
		t.Fatalf("%v: error %d at %d", n, e, at)
	}
	return n, l
}

// Promise 10.1: networks by chance, each node held against math/big.
func TestByChance(t *testing.T) {
	r := rand.New(rand.NewSource(101))
	given, refused := 0, 0
	for range 2000 {
		n, l := someNet(t, r)
		for i, m := range l {
			want, fits := told(n, m.x, m.home)
			if !fits {
				holdRefused(t, n, i, api.ErrOver)
				refused++
				continue
			}
			holdNeeds(t, n, i, want...)
			given++
		}
	}
	if given < 1000 || refused < 20 {
		t.Error("too few:", given, refused)
	}
}

// Promise 10.1, rules R4 and R5: the network is not changed, the answer is memory of its own, no two lists of which share any, behind their ends neither; and it comes again.
func TestMemory(t *testing.T) {
	n := read(t, town)
	got, _ := Of(n, 0)
	for i := range got {
		walks := got[i].Walks[:cap(got[i].Walks)]
		for j := range walks {
			walks[j].Walk = int64(-i - 1)
		}
	}
	for i := range got {
		for _, w := range got[i].Walks[:cap(got[i].Walks)] {
			if w.Walk != int64(-i-1) {
				t.Error("walks share memory:", got)
			}
		}
	}
	all := got[:cap(got)]
	for i := range all {
		all[i] = api.Need{}
	}
	if !reflect.DeepEqual(n, read(t, town)) {
		t.Error("the network has changed")
	}
	holdNeeds(t, n, 0, needsOfTown()...)
	kept, _ := Of(n, 0)
	for i := range n.Nodes[0].Peds {
		n.Nodes[0].Peds[i] = api.Ped{}
	}
	if !sameNeeds(kept, needsOfTown()) {
		t.Error("the answer has changed:", kept)
	}
}

// Promise 10.2: Least of none, of one and of several; ratios and walks do not count.
func TestLeast(t *testing.T) {
	for _, l := range [][]api.Need{nil, {}} {
		if got := Least(l); len(got) != 0 {
			t.Error("of none:", got)
		}
	}
	l := append(needsOfTown(), api.Need{}, api.Need{Green: 1}, api.Need{Yellow: 2}, api.Need{Red: 4}, api.Need{Green: 7, Yellow: -20, Red: 6},
		api.Need{Green: math.MaxInt64}, api.Need{Green: math.MaxInt64, Yellow: math.MinInt64, Red: 1}, api.Need{Walks: []api.Walk{{Walk: 8, Flash: 16}}})
	want := []int64{98, 29, 100, 0, 1, 2, 4, -7, math.MaxInt64, 0, 0}
	if got := Least(l); !slices.Equal(got, want) {
		t.Error(got, want)
	}
	for i := range l {
		if got := Least(l[i : i+1]); !slices.Equal(got, want[i:i+1]) {
			t.Error(l[i], got)
		}
	}
	if !sameNeeds(l[:3], needsOfTown()) {
		t.Error("the needs have changed")
	}
	first := Least(l)
	clear(first)
	if got := Least(l); !slices.Equal(got, want) {
		t.Error("asked again:", got)
	}
}
