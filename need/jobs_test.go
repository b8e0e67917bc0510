package need

import (
	"math"
	"math/rand"
	"reflect"
	"slices"
	"strings"
	"testing"

	"carrefour/api"
	"carrefour/valid"
)

// sameJobs holds jobs against others; of empty lists it does not matter whether they are nil.
func sameJobs(a, b []api.Job) bool {
	return slices.EqualFunc(a, b, func(j, k api.Job) bool {
		return slices.EqualFunc(j.Rows, k.Rows, slices.Equal[[]int64]) && slices.Equal(j.Free, k.Free) && slices.Equal(j.Apart, k.Apart)
	})
}

func holdJobs(t *testing.T, x api.Node, long []int64, want ...api.Job) {
	t.Helper()
	if got := Jobs(x, long); !sameJobs(got, want) {
		t.Fatalf("%v: %v; want %v", x, got, want)
	}
}

// ring tells a ring of phases that are told by letters; free ones stand behind a star.
func ring(letters string) api.Row {
	phases, free := strings.CutPrefix(letters, "*")
	return api.Row{Free: free, Phases: strings.Split(phases, "")}
}

// crossing is a node whose phases p to w have one head each, of the same letter, but great (p has N, too); foes are told by two letters each.
func crossing(foes string, groups ...api.Group) api.Node {
	x := api.Node{Groups: groups, Heads: []api.Head{{Name: "N"}}}
	for _, s := range strings.Split("pqrstuvw", "") {
		x.Heads = append(x.Heads, api.Head{Name: strings.ToUpper(s)})
		x.Phases = append(x.Phases, api.Phase{Name: s, Heads: []string{strings.ToUpper(s)}})
	}
	x.Phases[0].Heads = []string{"P", "N"}
	for _, f := range strings.Fields(foes) {
		x.Foes = append(x.Foes, api.Foe{A: f[:1], B: f[1:]})
	}
	return x
}

func group(rings ...string) api.Group {
	var g api.Group
	for _, s := range rings {
		g.Rings = append(g.Rings, ring(s))
	}
	return g
}

// eight are the times of a crossing's phases, p to w.
func eight() []int64 { return []int64{10, 20, 30, 40, 50, 60, 70, 80} }

func pair(a, b int) api.Pair { return api.Pair{A: a, B: b} }

// times are those of a job's rings.
type times [][]int64

// apart tells a job of these times, with rings that are not free, and with these pairs.
func (l times) apart(pairs ...api.Pair) api.Job {
	return api.Job{Rows: l, Free: make([]bool, len(l)), Apart: pairs}
}

// rows tells a job of these times, with rings that are not free, and without pairs.
func rows(l ...[]int64) api.Job { return times(l).apart() }

// Promise 10.2: groups of one ring and of two, in their order, free and not; phases in the rings' order, not the node's.
func TestJobs(t *testing.T) {
	holdJobs(t, crossing(""), eight())
	holdJobs(t, crossing("", group("p")), eight(), rows([]int64{10}))
	holdJobs(t, crossing("", group("wqv")), eight(), rows([]int64{80, 20, 70}))
	holdJobs(t, crossing("", group("*wqv")), eight(), api.Job{Rows: [][]int64{{80, 20, 70}}, Free: []bool{true}})
	holdJobs(t, crossing("", group("pq", "*srt"), group("u"), group("*v", "w")), eight(),
		api.Job{Rows: [][]int64{{10, 20}, {40, 30, 50}}, Free: []bool{false, true}},
		api.Job{Rows: [][]int64{{60}}, Free: []bool{false}},
		api.Job{Rows: [][]int64{{70}, {80}}, Free: []bool{true, false}})
	holdJobs(t, crossing("", group("*p", "*q")), eight(), api.Job{Rows: [][]int64{{10}, {20}}, Free: []bool{true, true}})
}

// Promise 10.2: the times are told as they are, any ones.
func TestAnyTimes(t *testing.T) {
	x := crossing("QR", group("pq", "rs"))
	long := []int64{math.MinInt64, -1, 0, math.MaxInt64, 5, 5, 5, 5}
	holdJobs(t, x, long, times{{math.MinInt64, -1}, {0, math.MaxInt64}}.apart(pair(1, 0)))
}

// Promise 10.2: other many times than there are phases.
func TestAsManyTimes(t *testing.T) {
	x := crossing("QR", group("pq", "rs"))
	long := append(eight(), 90, 100)
	for many := range long {
		got := Jobs(x, long[:many])
		if (len(got) != 0) != (many == len(x.Phases)) {
			t.Errorf("%d times: %v", many, got)
		}
	}
	if got := Jobs(x, nil); len(got) != 0 {
		t.Error("no times:", got)
	}
	x.Phases = nil
	holdJobs(t, x, nil, rows([]int64{0, 0}, []int64{0, 0})) // as many as there are phases: none
	holdJobs(t, x, []int64{}, rows([]int64{0, 0}, []int64{0, 0}))
	if got := Jobs(x, []int64{1}); len(got) != 0 {
		t.Error("one time, and no phase:", got)
	}
	holdJobs(t, api.Node{}, nil)
	if got := Jobs(api.Node{}, []int64{1}); len(got) != 0 {
		t.Error("one time of nothing:", got)
	}
}

// Promise 10.2: foes of two rings of one group, told either way round, once or twice, of any of a phase's heads.
func TestFoesOfTwoRings(t *testing.T) {
	two := group("pq", "rs")
	for foes, want := range map[string][]api.Pair{
		"":                     nil,
		"PR":                   {pair(0, 0)},
		"RP":                   {pair(0, 0)},
		"NR":                   {pair(0, 0)},
		"SN":                   {pair(0, 1)},
		"QR":                   {pair(1, 0)},
		"SQ":                   {pair(1, 1)},
		"PR PR RP NR":          {pair(0, 0)},
		"SQ QR NS RP":          {pair(0, 0), pair(0, 1), pair(1, 0), pair(1, 1)},
		"QR SP":                {pair(0, 1), pair(1, 0)},
		"QS PR":                {pair(0, 0), pair(1, 1)},
		"PQ QP NQ RS SR":       nil, // of one ring
		"PN PP":                nil,
		"PT QU RV SW TU":       nil, // of phases that are in no ring
		"PX XP XR SX XX YZ":    nil, // heads that are not there
		"pr rp pR Pr":          nil, // phases are no heads
		"QR PX PQ":             {pair(1, 0)},
		"XX PQ TU WW PT NS SN": {pair(0, 1)},
	} {
		holdJobs(t, crossing(foes, two), eight(), times{{10, 20}, {30, 40}}.apart(want...))
	}
}

// Promise 10.2: pairs stand by rising places, the first ring's ahead, whatever the order of foes, phases and heads.
func TestRisingPlaces(t *testing.T) {
	var foes []string
	for _, a := range strings.Split("PQRS", "") {
		for _, b := range strings.Split("TUVW", "") {
			foes = append(foes, a+b, b+a)
		}
	}
	var all []api.Pair
	for a := range 4 {
		for b := range 4 {
			all = append(all, pair(a, b))
		}
	}
	r := rand.New(rand.NewSource(102))
	for range 50 {
		r.Shuffle(len(foes), func(i, j int) { foes[i], foes[j] = foes[j], foes[i] })
		x := crossing(strings.Join(foes, " "), group("sprq", "vtwu"))
		holdJobs(t, x, eight(), times{{40, 10, 30, 20}, {70, 50, 80, 60}}.apart(all...))
	}
	x := crossing("UP TS VQ RW PV", group("sprq", "vtwu"))
	holdJobs(t, x, eight(), times{{40, 10, 30, 20}, {70, 50, 80, 60}}.apart(pair(0, 1), pair(1, 0), pair(1, 3), pair(2, 2), pair(3, 0)))
}

// Promise 10.2: rings of other lengths: A is of the first ring, B of the second, whichever is longer.
func TestRingsOfOtherLengths(t *testing.T) {
	holdJobs(t, crossing("SP TP", group("p", "rst")), eight(), times{{10}, {30, 40, 50}}.apart(pair(0, 1), pair(0, 2)))
	holdJobs(t, crossing("SP TP", group("rst", "p")), eight(), times{{30, 40, 50}, {10}}.apart(pair(1, 0), pair(2, 0)))
}

// Promise 10.2: foes of two groups, or of the rings of one that has one alone, are in no pair; each group has its own.
func TestFoesOfTwoGroups(t *testing.T) {
	x := crossing("PQ PR QS RT PT SU VW TU", group("p", "r"), group("s", "q"), group("t"), group("uw", "v"))
	holdJobs(t, x, eight(),
		times{{10}, {30}}.apart(pair(0, 0)),
		times{{40}, {20}}.apart(pair(0, 0)),
		times{{50}}.apart(),
		times{{60, 80}, {70}}.apart(pair(1, 0)))
}

// Promise 10.2: what is named and not there counts as a time of 0, and has no foes: phases in rings, heads in phases, heads in foes.
func TestNotThere(t *testing.T) {
	x := crossing("PR QR", group("pxq", "xr"), group("x"), group("x", "x"))
	wants := func(apart ...api.Pair) []api.Job {
		return []api.Job{times{{10, 0, 20}, {0, 30}}.apart(apart...), times{{0}}.apart(), times{{0}, {0}}.apart()}
	}
	holdJobs(t, x, eight(), wants(pair(0, 1), pair(2, 1))...)
	x.Foes = append(x.Foes, api.Foe{A: "X", B: "P"}, api.Foe{A: "R", B: "x"}, api.Foe{A: "", B: ""}, api.Foe{A: "x", B: "x"})
	holdJobs(t, x, eight(), wants(pair(0, 1), pair(2, 1))...)
	x.Heads = slices.DeleteFunc(x.Heads, func(h api.Head) bool { return h.Name == "P" }) // the phase p has it still
	holdJobs(t, x, eight(), wants(pair(2, 1))...)
	x.Foes = append(x.Foes, api.Foe{A: "R", B: "N"}) // the phase's other head is there
	holdJobs(t, x, eight(), wants(pair(0, 1), pair(2, 1))...)
	x.Heads = slices.DeleteFunc(x.Heads, func(h api.Head) bool { return h.Name == "R" })
	holdJobs(t, x, eight(), wants()...)
	x.Heads = nil
	holdJobs(t, x, eight(), wants()...)
}

// Promise 10.2: empty names are names as others are.
func TestEmptyNames(t *testing.T) {
	x := api.Node{
		Phases: []api.Phase{{Name: "p", Heads: []string{"P"}}, {Name: "", Heads: []string{""}}},
		Groups: []api.Group{{Rings: []api.Row{{Phases: []string{"p"}}, {Phases: []string{"q", ""}}}}},
		Foes:   []api.Foe{{A: "P", B: ""}},
		Heads:  []api.Head{{Name: "P"}},
	}
	holdJobs(t, x, []int64{3, 4}, times{{3}, {0, 4}}.apart())
	x.Heads = append(x.Heads, api.Head{})
	holdJobs(t, x, []int64{3, 4}, times{{3}, {0, 4}}.apart(pair(0, 1)))
}

// Promise 10.2: a phase that is named twice, in a ring, in two, or by two phases, of which the first one counts (7).
func TestNamedTwice(t *testing.T) {
	holdJobs(t, crossing("PR", group("pqp", "rr")), eight(), times{{10, 20, 10}, {30, 30}}.apart(pair(0, 0), pair(0, 1), pair(2, 0), pair(2, 1)))
	holdJobs(t, crossing("PQ", group("pq", "qp")), eight(), times{{10, 20}, {20, 10}}.apart(pair(0, 0), pair(1, 1)))
	holdJobs(t, crossing("PN", group("pq", "rp")), eight(), times{{10, 20}, {30, 10}}.apart(pair(0, 1)))
	holdJobs(t, crossing("PP", group("pq", "rp")), eight(), times{{10, 20}, {30, 10}}.apart(pair(0, 1)))
	x := crossing("PR TR", group("pq", "rs"))
	x.Phases[4].Name = "p" // it has the head T
	holdJobs(t, x, eight(), times{{10, 20}, {30, 40}}.apart(pair(0, 0)))
	x.Foes = x.Foes[1:]
	holdJobs(t, x, eight(), times{{10, 20}, {30, 40}}.apart())
	x = crossing("PR", group("pq", "rs"))
	x.Phases[1].Heads = []string{"Q", "P"} // a head that two phases have
	holdJobs(t, x, eight(), times{{10, 20}, {30, 40}}.apart(pair(0, 0), pair(1, 0)))
	x.Phases[1].Heads = []string{"R", "Q", "R"}
	holdJobs(t, x, eight(), times{{10, 20}, {30, 40}}.apart(pair(0, 0)))
	x.Heads = append(x.Heads, api.Head{Name: "P"}, api.Head{Name: "P"})
	holdJobs(t, x, eight(), times{{10, 20}, {30, 40}}.apart(pair(0, 0)))
}

// Promise 10.2: groups and rings that no network may have: none in them, or more than two rings, of which no pair is told.
func TestOtherGroups(t *testing.T) {
	holdJobs(t, crossing("PR", api.Group{}, group("p")), eight(), api.Job{}, rows([]int64{10}))
	empty := api.Group{Rings: []api.Row{{}, {Free: true, Phases: []string{"p"}}}}
	holdJobs(t, crossing("PR", empty), eight(), api.Job{Rows: [][]int64{nil, {10}}, Free: []bool{false, true}})
	holdJobs(t, crossing("PR RS PS", group("p", "r", "s")), eight(), rows([]int64{10}, []int64{30}, []int64{40}))
	long := strings.Repeat("pq", 20)
	got := Jobs(crossing("PR QS", group(long, "rs")), eight())
	if len(got) != 1 || len(got[0].Rows[0]) != 40 || len(got[0].Apart) != 40 || got[0].Apart[39] != pair(39, 1) {
		t.Error("a long ring:", got)
	}
}

// apartOf tells the pairs of a group by going over foes instead of places.
func apartOf(m made, k int) []api.Pair {
	var l []api.Pair
	for _, f := range m.x.Foes {
		a, b := m.where[m.home[f.A]], m.where[m.home[f.B]]
		if a.ring > b.ring {
			a, b = b, a
		}
		if a.group == k && b.group == k && a.ring != b.ring && !slices.Contains(l, pair(a.at, b.at)) {
			l = append(l, pair(a.at, b.at))
		}
	}
	slices.SortFunc(l, func(p, q api.Pair) int { return (p.A-q.A)*1000 + p.B - q.B })
	return l
}

// jobsOf tells by the places of the phases what Jobs answers.
func jobsOf(m made, long []int64) []api.Job {
	var l []api.Job
	for k, g := range m.x.Groups {
		job := api.Job{Apart: apartOf(m, k)}
		for _, r := range g.Rings {
			job.Rows, job.Free = append(job.Rows, make([]int64, len(r.Phases))), append(job.Free, r.Free)
		}
		l = append(l, job)
	}
	for i, p := range m.x.Phases {
		at := m.where[p.Name]
		l[at.group].Rows[at.ring][at.at] = long[i]
	}
	return l
}

// Promise 10.2: nodes by chance, with times by chance, and with what their phases need.
func TestJobsByChance(t *testing.T) {
	r := rand.New(rand.NewSource(103))
	apart, two := 0, 0
	for range 2000 {
		n, l := someNet(t, r)
		for i, m := range l {
			long := make([]int64, len(m.x.Phases))
			for k := range long {
				long[k] = r.Int63()
			}
			holdJobs(t, m.x, long, jobsOf(m, long)...)
			if needs, e := Of(n, i); e == api.OK {
				holdJobs(t, m.x, Least(needs), jobsOf(m, Least(needs))...)
			}
			for k, g := range m.x.Groups {
				apart += len(apartOf(m, k))
				two += len(g.Rings) - 1
			}
		}
	}
	if apart < 1000 || two < 1000 {
		t.Error("too few:", apart, two)
	}
}

// serves tells which heads a place of a job's group serves.
func serves(x api.Node, group, ring, at int) []string {
	return x.Phases[valid.Phase(x, x.Groups[group].Rings[ring].Phases[at])].Heads
}

// meets tells whether a job leaves a head time with another one: they are in two rings of one group, and in no pair.
func meets(x api.Node, jobs []api.Job, a, b string) bool {
	for k, job := range jobs {
		if len(job.Rows) < 2 {
			continue
		}
		for p := range job.Rows[0] {
			for q := range job.Rows[1] {
				these, those := serves(x, k, 0, p), serves(x, k, 1, q)
				across := slices.Contains(these, a) && slices.Contains(those, b) || slices.Contains(these, b) && slices.Contains(those, a)
				if across && !slices.Contains(job.Apart, pair(p, q)) {
					return true
				}
			}
		}
	}
	return false
}

// Promise 10.3: of a network that may be no two foes meet; what is apart by a pair are phases with foes, and those alone.
func TestFoesNeverMeet(t *testing.T) {
	r := rand.New(rand.NewSource(104))
	met := 0
	for range 1000 {
		n, l := someNet(t, r)
		for i, m := range l {
			x := n.Nodes[i]
			jobs := Jobs(x, make([]int64, len(x.Phases)))
			for _, f := range x.Foes {
				a, b := m.where[m.home[f.A]], m.where[m.home[f.B]]
				inTurn := a.group != b.group || a.ring == b.ring
				if !inTurn && !slices.Contains(jobs[a.group].Apart, pair([]int{a.at, b.at}[a.ring], []int{a.at, b.at}[b.ring])) || meets(x, jobs, f.A, f.B) {
					t.Fatalf("%v: foes %v meet", x, f)
				}
			}
			x.Foes = nil // without them nothing is apart, so that heads of two rings do meet
			for _, f := range n.Nodes[i].Foes {
				if meets(x, Jobs(x, make([]int64, len(x.Phases))), f.A, f.B) {
					met++
				}
			}
		}
	}
	if met < 1000 {
		t.Error("too few foes of two rings:", met)
	}
}

// Promise 10.2, rules R4 and R5: neither the node nor the times are changed or handed out; no two lists of an answer share memory; it comes again.
func TestMemoryOfJobs(t *testing.T) {
	fresh := func() api.Node {
		return crossing("PR QR QS UV", group("*pq", "rs"), group("t"), group("u", "*v"))
	}
	x, long := fresh(), append(eight(), 90)[:8]
	want := []api.Job{
		{Rows: [][]int64{{10, 20}, {30, 40}}, Free: []bool{true, false}, Apart: []api.Pair{pair(0, 0), pair(1, 0), pair(1, 1)}},
		{Rows: [][]int64{{50}}, Free: []bool{false}},
		{Rows: [][]int64{{60}, {70}}, Free: []bool{false, true}, Apart: []api.Pair{pair(0, 0)}},
	}
	got := Jobs(x, long)
	if !sameJobs(got, want) {
		t.Fatal(got)
	}
	overwrite(t, got)
	if !reflect.DeepEqual(x, fresh()) || !slices.Equal(long[:9], append(eight(), 90)) {
		t.Error("the arguments have changed:", x, long)
	}
	holdJobs(t, x, long, want...)
	kept := Jobs(x, long)
	clear(long)
	x.Groups[0].Rings[0] = api.Row{}
	if !sameJobs(kept, want) {
		t.Error("the answer has changed:", kept)
	}
}

// overwrite writes a number of its own all over each list of an answer, behind its end, too, and then looks for it.
func overwrite(t *testing.T, l []api.Job) {
	t.Helper()
	for range 2 {
		mark := 0
		for _, j := range l {
			for _, row := range j.Rows {
				mark++
				for i := range row[:cap(row)] {
					row[:cap(row)][i] = int64(mark)
				}
			}
			mark++
			for i := range j.Apart[:cap(j.Apart)] {
				j.Apart[:cap(j.Apart)][i] = pair(mark, mark)
			}
		}
	}
	mark := 0
	for _, j := range l {
		for _, row := range j.Rows {
			mark++
			for _, n := range row[:cap(row)] {
				if n != int64(mark) {
					t.Error("rows share memory:", l)
				}
			}
		}
		mark++
		for _, p := range j.Apart[:cap(j.Apart)] {
			if p != pair(mark, mark) {
				t.Error("pairs share memory:", l)
			}
		}
	}
	for i := range l {
		free := l[i].Free[:cap(l[i].Free)]
		for k := range l {
			clear(l[k].Free[:cap(l[k].Free)])
		}
		for k := range free {
			free[k] = true
		}
		for k := range l {
			if k != i && slices.Contains(l[k].Free[:cap(l[k].Free)], true) {
				t.Error("what is free shares memory:", l)
			}
		}
	}
}

// Promise 10.2: pairs are gone through by rising places, for as long as one goes on.
func TestPairs(t *testing.T) {
	for _, many := range [][2]int{{0, 0}, {0, 3}, {3, 0}, {1, 1}, {2, 3}, {3, 2}} {
		for stop := range many[0]*many[1] + 1 {
			var got []api.Pair
			for p := range pairs(many[0], many[1]) {
				if len(got) == stop {
					break
				}
				got = append(got, p)
			}
			for i, p := range got {
				if p != pair(i/many[1], i%many[1]) {
					t.Error(many, got)
				}
			}
			if len(got) != stop {
				t.Error(many, stop, got)
			}
		}
	}
}
