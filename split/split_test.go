package split

import (
	"math"
	"reflect"
	"slices"
	"strings"
	"testing"

	"carrefour/api"
)

// node makes a node of groups that are told by their phases' letters: "ab|*cd" has two rings, the second one free. Each phase has a head of its own, of the same letter, but great; phases stand in the order of the letters. Foes are told by two letters each.
func node(foes string, groups ...string) api.Node {
	var x api.Node
	letters := strings.Split(strings.Trim(strings.Join(groups, ""), "|*"), "")
	slices.Sort(letters)
	for _, s := range slices.Compact(letters) {
		if s != "|" && s != "*" && s != "" {
			x.Phases = append(x.Phases, api.Phase{Name: s, Heads: []string{strings.ToUpper(s)}})
			x.Heads = append(x.Heads, api.Head{Name: strings.ToUpper(s)})
		}
	}
	for _, told := range groups {
		var g api.Group
		for _, ring := range strings.Split(told, "|") {
			phases, free := strings.CutPrefix(ring, "*")
			g.Rings = append(g.Rings, api.Row{Free: free, Phases: strings.Split(phases, "")})
		}
		x.Groups = append(x.Groups, g)
	}
	for _, f := range strings.Fields(foes) {
		x.Foes = append(x.Foes, api.Foe{A: f[:1], B: f[1:]})
	}
	return x
}

func fr(num, den int64) api.Frac { return api.Frac{Num: num, Den: den} }

// needs makes needs of five numbers each: green, yellow, red, and the ratio.
func needs(numbers ...int64) []api.Need {
	var l []api.Need
	for k := range slices.Chunk(numbers, 5) {
		l = append(l, api.Need{Green: k[0], Yellow: k[1], Red: k[2], Ratio: fr(k[3], k[4])})
	}
	return l
}

// like makes so many needs alike.
func like(n int, one ...int64) []api.Need { return needs(slices.Repeat(one, n)...) }

// fit makes a layout of a time, and of each ring the order, told by digits, and the starts.
func fit(least int64, orders string, starts ...[]int64) api.Fit {
	f := api.Fit{Least: least, Starts: starts}
	for _, digits := range strings.Fields(orders) {
		var p []int
		for _, d := range digits {
			p = append(p, int(d-'0'))
		}
		f.Orders = append(f.Orders, p)
	}
	return f
}

func sameFit(a, b api.Fit) bool {
	return a.Least == b.Least && slices.EqualFunc(a.Orders, b.Orders, slices.Equal[[]int]) && slices.EqualFunc(a.Starts, b.Starts, slices.Equal[[]int64])
}

func sameShare(a, b api.Share) bool {
	return a.Worst == b.Worst && slices.EqualFunc(a.Fits, b.Fits, sameFit)
}

// copyOf tells the same layouts in other memory.
func copyOf(s api.Share) api.Share {
	c := api.Share{Worst: s.Worst}
	for _, f := range s.Fits {
		g := api.Fit{Least: f.Least}
		for _, p := range f.Orders {
			g.Orders = append(g.Orders, slices.Clone(p))
		}
		for _, l := range f.Starts {
			g.Starts = append(g.Starts, slices.Clone(l))
		}
		c.Fits = append(c.Fits, g)
	}
	return c
}

// wantShare holds that a cycle is split so, by any budget that is great enough, and by none that is not.
func wantShare(t *testing.T, x api.Node, l []api.Need, c int64, want api.Share) {
	t.Helper()
	s, steps, e := Best(x, l, c, math.MaxInt64)
	if e != api.OK || !sameShare(s, want) || steps < int64(len(x.Groups)) {
		t.Fatalf("%v of %d: %v, %d steps, %d; not %v", l, c, s, steps, int(e), want)
	}
	for _, budget := range []int64{steps, steps + 1, api.MaxBudget} {
		if s, took, e := Best(x, l, c, budget); e != api.OK || took != steps || !sameShare(s, want) {
			t.Fatalf("%v of %d by %d: %v, %d, %d; not %v, %d", l, c, budget, s, took, int(e), want, steps)
		}
	}
	for _, budget := range []int64{steps - 1, steps - 2, steps / 2, 1, 0, -1, math.MinInt64} {
		if budget < steps {
			wantRefused(t, x, l, c, budget, max(budget, 0), api.ErrBudget)
		}
	}
}

// wantRefused holds that a call is refused, and what is told beside.
func wantRefused(t *testing.T, x api.Node, l []api.Need, c, budget, steps int64, e api.Errno) {
	t.Helper()
	if s, took, got := Best(x, l, c, budget); got != e || took != steps || len(s.Fits) != 0 || s.Worst != (api.Frac{}) {
		t.Errorf("%v, %v of %d by %d: %v, %d, %d; not %d, %d", x.Groups, l, c, budget, s, took, int(got), steps, int(e))
	}
}

// wantNumber holds that a call is refused by a number that hangs on no budget.
func wantNumber(t *testing.T, x api.Node, l []api.Need, c int64, e api.Errno) {
	t.Helper()
	for _, budget := range []int64{math.MinInt64, -1, 0, 1, 2, 1 << 20, math.MaxInt64} {
		wantRefused(t, x, l, c, budget, 0, e)
	}
}

// wantOK holds that a call is not refused.
func wantOK(t *testing.T, x api.Node, l []api.Need, c int64) {
	t.Helper()
	if s, steps, e := Best(x, l, c, math.MaxInt64); e != api.OK {
		t.Errorf("%v, %v of %d: %v, %d, %d", x.Groups, l, c, s, steps, int(e))
	}
}

// Promises 16.1 and 16.2: the chapter's example.
func TestExample(t *testing.T) {
	x, l := node("", "ab"), needs(5, 3, 2, 1, 4, 5, 3, 2, 1, 8)
	wantShare(t, x, l, 40, api.Share{Fits: []api.Fit{fit(40, "01", []int64{0, 25})}, Worst: fr(1, 80)})
	s, _, _ := Best(x, l, 40, math.MaxInt64)
	if got := Splits(s.Fits[0]); len(got) != 1 || !slices.Equal(got[0], []int64{25, 15}) {
		t.Error("splits:", got)
	}
}

// Promise 16.1: nodes, cycles and how they are split, written out.
func TestShares(t *testing.T) {
	for _, r := range []struct {
		x    api.Node
		l    []api.Need
		c    int64
		want api.Share
	}{
		// No Ratio is above 0: the Needs' Greens, and the rest of the cycle behind them.
		{node("", "a"), needs(5, 3, 2, 0, 1), 10, api.Share{Fits: []api.Fit{fit(10, "0", []int64{0})}, Worst: fr(0, 1)}},
		{node("", "a"), needs(5, 3, 2, 0, 1), 6000, api.Share{Fits: []api.Fit{fit(6000, "0", []int64{0})}, Worst: fr(0, 1)}},
		{node("", "ab", "c"), like(3, 5, 3, 2, 0, 1), 37, api.Share{Fits: []api.Fit{fit(20, "01", []int64{0, 10}), fit(17, "0", []int64{0})}, Worst: fr(0, 1)}},
		// One alone has one: it has all that the others leave.
		{node("", "ab", "c"), needs(5, 3, 2, 0, 1, 5, 3, 2, 1, 2, 5, 3, 2, 0, 1), 37, api.Share{Fits: []api.Fit{fit(27, "01", []int64{0, 10}), fit(10, "0", []int64{0})}, Worst: fr(1, 24)}},
		// The phases of the rings stand in another order than those of the node.
		{node("", "ba"), needs(5, 3, 2, 1, 4, 5, 3, 2, 1, 8), 40, api.Share{Fits: []api.Fit{fit(40, "01", []int64{0, 15})}, Worst: fr(1, 80)}},
		{node("", "ba"), needs(5, 3, 2, 1, 4, 5, 3, 2, 1, 8), 41, api.Share{Fits: []api.Fit{fit(41, "01", []int64{0, 15})}, Worst: fr(1, 80)}},
		// Ratios alike: both have as much, and an odd tick is left.
		{node("", "ab"), like(2, 1, 0, 0, 1, 1), 10, api.Share{Fits: []api.Fit{fit(10, "01", []int64{0, 5})}, Worst: fr(1, 5)}},
		{node("", "ab"), like(2, 1, 0, 0, 1, 1), 11, api.Share{Fits: []api.Fit{fit(11, "01", []int64{0, 5})}, Worst: fr(1, 5)}},
		// The least green of one is great: the other one makes the worst.
		{node("", "ab"), needs(30, 0, 0, 1, 1, 1, 0, 0, 1, 1), 40, api.Share{Fits: []api.Fit{fit(40, "01", []int64{0, 30})}, Worst: fr(1, 10)}},
		// The worst is that of a phase that can't be helped: others have no more than it asks of them.
		{node("", "a", "b|c"), needs(10, 0, 0, 9, 2, 1, 0, 0, 3, 1, 20, 0, 0, 0, 1), 31, api.Share{Fits: []api.Fit{fit(11, "0", []int64{0}), fit(20, "0 0", []int64{0}, []int64{0})}, Worst: fr(9, 22)}},
		// Two rings, apart and not: the one with the lesser sum lasts longer.
		{node("", "ab|cd"), like(4, 4, 1, 1, 1, 4), 20, api.Share{Fits: []api.Fit{fit(20, "01 01", []int64{0, 10}, []int64{0, 10})}, Worst: fr(1, 32)}},
		{node("", "ab|cd"), needs(4, 1, 1, 1, 8, 4, 1, 1, 1, 4, 4, 1, 1, 1, 4, 4, 1, 1, 1, 8), 24, api.Share{Fits: []api.Fit{fit(24, "01 01", []int64{0, 9}, []int64{0, 15})}, Worst: fr(1, 52)}},
		{node("CB", "ab|cd"), needs(4, 1, 1, 1, 8, 4, 1, 1, 1, 4, 4, 1, 1, 1, 4, 4, 1, 1, 1, 8), 24, api.Share{Fits: []api.Fit{fit(24, "01 01", []int64{0, 12}, []int64{0, 12})}, Worst: fr(1, 40)}},
		{node("AC", "ab|*cd"), needs(4, 1, 1, 1, 4, 2, 1, 1, 1, 8, 4, 1, 1, 1, 4, 4, 1, 1, 1, 4), 20, api.Share{Fits: []api.Fit{fit(20, "01 10", []int64{0, 10}, []int64{0, 10})}, Worst: fr(1, 32)}},
	} {
		wantShare(t, r.x, r.l, r.c, r.want)
	}
}

// Promise 16.1: other many Needs than phases.
func TestAsManyNeeds(t *testing.T) {
	x := node("", "ab", "c")
	all := like(6, 1, 0, 0, 1, 4)
	for many := range all {
		if many != 3 {
			wantNumber(t, x, all[:many], 60, api.ErrArg)
		}
	}
	wantNumber(t, x, nil, 60, api.ErrArg)
	wantOK(t, x, all[:3], 60)
	wantNumber(t, api.Node{}, all[:1], 60, api.ErrArg)
}

// Promise 16.1: the cycle's bounds.
func TestCycles(t *testing.T) {
	x, l := node("", "a"), needs(1, 0, 0, 1, 1)
	for _, c := range []int64{math.MinInt64, -1 << 32, -api.MaxTime, -1, 0, api.MaxTime + 1, 1 << 32, 1<<32 + 1, math.MaxInt64} {
		wantNumber(t, x, l, c, api.ErrArg)
		wantNumber(t, api.Node{}, nil, c, api.ErrArg)
	}
	for _, c := range []int64{1, 2, api.MaxTime - 1, api.MaxTime} {
		wantShare(t, x, l, c, api.Share{Fits: []api.Fit{fit(c, "0", []int64{0})}, Worst: fr(1, c)})
	}
}

// Promise 16.1: the bounds of a Need's times, of the first one and of the last.
func TestTimesOfNeeds(t *testing.T) {
	x := node("", "a", "b")
	for place := range 2 {
		for field := range 3 {
			put := func(number int64) []api.Need {
				l := like(2, 1, 0, 0, 1, 4)
				*[]*int64{&l[place].Green, &l[place].Yellow, &l[place].Red}[field] = number
				return l
			}
			for _, wrong := range []int64{math.MinInt64, -1 << 32, -api.MaxTime, -1, api.MaxTime + 1, 1 << 32, 1<<32 + 1, math.MaxInt64} {
				wantNumber(t, x, put(wrong), api.MaxTime, api.ErrArg)
			}
			if field == 0 {
				wantNumber(t, x, put(0), api.MaxTime, api.ErrArg)
			} else {
				wantOK(t, x, put(0), api.MaxTime)
			}
			for _, right := range []int64{1, 2, api.MaxTime - 2} {
				wantOK(t, x, put(right), api.MaxTime)
			}
			if field == 0 {
				// So long is a phase that may be; but not with another one beside it.
				wantNumber(t, x, put(api.MaxTime), api.MaxTime, api.ErrFit)
			} else {
				wantNumber(t, x, put(api.MaxTime), api.MaxTime, api.ErrArg)
			}
		}
	}
	// In no ring, Yellow and Red may be just so long.
	x.Phases = append(x.Phases, api.Phase{Name: "z"})
	wantOK(t, x, append(like(2, 1, 0, 0, 1, 4), needs(api.MaxTime, api.MaxTime, api.MaxTime, 0, 1)...), 2)
	wantNumber(t, x, append(like(2, 1, 0, 0, 1, 4), needs(api.MaxTime+1, 0, 0, 0, 1)...), 2, api.ErrArg)
	wantNumber(t, x, append(like(2, 1, 0, 0, 1, 4), needs(1, api.MaxTime+1, 0, 0, 1)...), 2, api.ErrArg)
	wantNumber(t, x, append(like(2, 1, 0, 0, 1, 4), needs(1, 0, api.MaxTime+1, 0, 1)...), 2, api.ErrArg)
	wantNumber(t, x, append(like(2, 1, 0, 0, 1, 4), needs(0, 0, 0, 0, 1)...), 2, api.ErrArg)
}

// Promise 16.1: Ratios that are not right, and ones below 0, in a ring and in none.
func TestRatiosOfNeeds(t *testing.T) {
	x := node("", "a", "b")
	x.Phases = append(x.Phases, api.Phase{Name: "z"})
	for place := range 3 {
		for _, wrong := range []api.Frac{{}, fr(1, 0), fr(-1, 0), fr(1, -4), fr(-1, -4), fr(2, 4), fr(3, 3), fr(0, 2), fr(0, -1), fr(-1, 4), fr(-1, 1), fr(-2, 4), fr(math.MinInt64, 1), fr(1, math.MinInt64), fr(math.MinInt64, math.MinInt64), fr(6, math.MaxInt64-1)} {
			l := like(3, 1, 0, 0, 1, 4)
			l[place].Ratio = wrong
			wantNumber(t, x, l, 60, api.ErrArg)
		}
		for _, right := range []api.Frac{fr(0, 1), fr(1, 1), fr(1, 4), fr(4, 1), fr(math.MaxInt64, 1), fr(math.MaxInt64, 2), fr(1, math.MaxInt64/60)} {
			l := like(3, 1, 0, 0, 1, 4)
			l[place].Ratio = right
			wantOK(t, x, l, 60)
		}
	}
}

// Promise 16.1: groups that may not be laid out.
func TestJobsThatMayNotBe(t *testing.T) {
	ring := func(phases ...string) api.Row { return api.Row{Phases: phases} }
	many := node("", "abcd|efgh", "i")
	l := like(9, 1, 0, 0, 1, 4)
	wantOK(t, many, l, 60)
	for at := range 3 {
		for _, wrong := range []api.Group{
			{},
			{Rings: []api.Row{{}}},
			{Rings: []api.Row{ring("a"), {}}},
			{Rings: []api.Row{{}, ring("a")}},
			{Rings: []api.Row{ring("a", "b", "c", "d", "e")}},
			{Rings: []api.Row{ring("a"), ring("b", "c", "d", "e", "f")}},
			{Rings: []api.Row{ring("a"), ring("b"), ring("c")}},
			{Rings: []api.Row{ring("z", "y", "x", "w", "v")}},
		} {
			x := many
			x.Groups = slices.Insert(slices.Clone(many.Groups), at, wrong)
			wantNumber(t, x, l, 60, api.ErrArg)
		}
	}
	// So long may a phase be, and no longer.
	one := node("", "a")
	wantShare(t, one, needs(5990, 7, 3, 1, 4), api.MaxTime, api.Share{Fits: []api.Fit{fit(6000, "0", []int64{0})}, Worst: fr(1, 4*5990)})
	for _, l := range [][]api.Need{needs(5991, 7, 3, 1, 4), needs(5990, 8, 3, 1, 4), needs(5990, 7, 4, 1, 4), needs(6000, 6000, 6000, 0, 1)} {
		wantNumber(t, one, l, api.MaxTime, api.ErrArg)
	}
	// In no ring it is in no job.
	one.Phases = append(one.Phases, api.Phase{Name: "b"})
	wantOK(t, one, needs(5, 3, 2, 1, 4, 6000, 6000, 6000, 0, 1), 10)
	one.Groups = append(one.Groups, api.Group{Rings: []api.Row{ring("b")}})
	wantNumber(t, one, needs(5, 3, 2, 1, 4, 6000, 6000, 6000, 0, 1), api.MaxTime, api.ErrArg)
}

// Promise 16.1: a Den that times c is 2^63 - 1, below it and above.
func TestOver(t *testing.T) {
	x := node("", "a", "b")
	for place := range 2 {
		for _, r := range []struct {
			den, c int64
			e      api.Errno
		}{
			{math.MaxInt64 / 7, 7, api.OK}, // 2^63 - 1 is 7 times that
			{math.MaxInt64/7 + 1, 7, api.ErrOver},
			{math.MaxInt64 / 49, 49, api.OK},
			{math.MaxInt64/49 + 1, 49, api.ErrOver},
			{math.MaxInt64 / 7, 8, api.ErrOver},
			{1<<60 - 1, 8, api.OK},
			{1 << 60, 8, api.ErrOver}, // just 2^63
			{1 << 60, 7, api.OK},
			{1 << 60, 16, api.ErrOver}, // 2^64
			{math.MaxInt64 / 6000, 6000, api.OK},
			{math.MaxInt64/6000 + 1, 6000, api.ErrOver},
			{math.MaxInt64, 2, api.ErrOver},
			{math.MaxInt64, 6000, api.ErrOver},
		} {
			l := like(2, 1, 0, 0, 0, 1)
			l[place].Ratio = fr(1, r.den)
			s, _, e := Best(x, l, r.c, math.MaxInt64)
			if e != r.e || e == api.OK && s.Worst != fr(1, r.den*(r.c-1)) {
				t.Errorf("1/%d of %d: %v, %d", r.den, r.c, s, int(e))
			}
			if r.e != api.OK {
				wantNumber(t, x, l, r.c, api.ErrOver)
			}
		}
	}
	// A Ratio of 0 has a Den of 1, or it is not right.
	wantOK(t, x, like(2, 1, 0, 0, 0, 1), 6000)
	wantNumber(t, x, like(2, 1, 0, 0, 0, math.MaxInt64), 6000, api.ErrArg)
	one := node("", "a")
	wantShare(t, one, needs(1, 0, 0, 1, math.MaxInt64), 1, api.Share{Fits: []api.Fit{fit(1, "0", []int64{0})}, Worst: fr(1, math.MaxInt64)})
	wantNumber(t, one, needs(1, 0, 0, math.MaxInt64-1, math.MaxInt64), 2, api.ErrOver)
	// Of a phase in no ring, too.
	x.Phases = append(x.Phases, api.Phase{Name: "z"})
	l := append(like(2, 1, 0, 0, 1, 4), needs(1, 0, 0, 1, 1<<60)...)
	wantOK(t, x, l, 7)
	wantNumber(t, x, l, 8, api.ErrOver)
}

// Promise 16.1: Greens that just fill the cycle, and that are one more; only some phases' do matter there.
func TestFull(t *testing.T) {
	for _, r := range []struct {
		x    api.Node
		l    []api.Need
		c    int64
		full string // a digit each phase: 1, if one more green does not fit
		fits []api.Fit
	}{
		{node("", "a"), needs(5, 3, 2, 1, 4), 10, "1", []api.Fit{fit(10, "0", []int64{0})}},
		{node("", "ab"), like(2, 5, 3, 2, 1, 4), 20, "11", []api.Fit{fit(20, "01", []int64{0, 10})}},
		{node("", "a", "b", "c", "d"), like(4, 5, 3, 2, 0, 1), 40, "1111", slices.Repeat([]api.Fit{fit(10, "0", []int64{0})}, 4)},
		{node("", "ab|c", "d"), like(4, 5, 3, 2, 1, 4), 30, "1101", []api.Fit{fit(20, "01 0", []int64{0, 10}, []int64{0}), fit(10, "0", []int64{0})}},
		// Pairs that are apart make a group longer than its rings.
		{node("BC", "ab|cd"), like(4, 5, 3, 2, 1, 4), 20, "1111", []api.Fit{fit(20, "01 01", []int64{0, 10}, []int64{0, 10})}},
		{node("AD", "ab|cd"), needs(5, 3, 2, 1, 4, 5, 3, 2, 1, 4, 1, 0, 0, 1, 4, 9, 5, 5, 1, 4), 29, "1001", []api.Fit{fit(29, "01 01", []int64{0, 10}, []int64{0, 10})}},
	} {
		s, _, e := Best(r.x, r.l, r.c, math.MaxInt64)
		if e != api.OK || !slices.EqualFunc(s.Fits, r.fits, sameFit) {
			t.Errorf("%v of %d: %v, %d; not %v", r.l, r.c, s, int(e), r.fits)
		}
		for place := range r.l {
			l := slices.Clone(r.l)
			l[place].Green++
			if r.full[place] == '1' {
				wantNumber(t, r.x, l, r.c, api.ErrFit)
				wantOK(t, r.x, l, r.c+1)
			} else {
				wantOK(t, r.x, l, r.c)
			}
		}
		for c := int64(1); c < r.c; c++ {
			wantNumber(t, r.x, r.l, c, api.ErrFit)
		}
	}
}

// Promise 16.1: Pairs that no order keeps: nothing fits, however long the cycle.
func TestNoOrderKeeps(t *testing.T) {
	for _, x := range []api.Node{
		node("AB", "a|b"),
		node("BA", "*a|*b"),
		node("CD", "ab", "c|d"),
		node("AC", "ab|cd"),
		node("BD", "ab|cd"),
		node("AC AD", "*ab|*cd"),
	} {
		l := like(len(x.Phases), 5, 3, 2, 1, 4)
		for _, c := range []int64{1, 9, 10, 40, 1000, api.MaxTime} {
			wantNumber(t, x, l, c, api.ErrFit)
		}
	}
	// With a ring that is free there is one.
	wantOK(t, node("AC", "*ab|cd"), like(4, 5, 3, 2, 1, 4), 20)
}

// Promise 16.1, rule R2: which number is told where several would do.
func TestWhichNumber(t *testing.T) {
	x := node("", "a", "b")
	// ErrArg ahead of all, whichever need it is of.
	for _, l := range [][]api.Need{
		needs(1, 0, 0, 1, 1<<60, 0, 0, 0, 1, 4),
		needs(0, 0, 0, 1, 4, 1, 0, 0, 1, 1<<60),
		needs(1, 0, 0, 1, 1<<60, 7000, 0, 0, 1, 4),
		needs(6000, 0, 0, 1, 1<<60, 6000, 1, 0, 1, 4),
		needs(1, 0, 0, 1, 1<<60, 1, 0, 0, -1, 1<<60),
		like(1, 1, 0, 0, 1, 1<<60),
		like(3, 1, 0, 0, 1, 1<<60),
	} {
		wantNumber(t, x, l, 8, api.ErrArg)
	}
	wantNumber(t, x, like(2, 6000, 0, 0, 1, 1<<60), 0, api.ErrArg)
	wantNumber(t, x, like(2, 6000, 0, 0, 1, 1<<60), 6001, api.ErrArg)
	none := node("AB", "a|b", "c")
	none.Groups = append(none.Groups, api.Group{})
	wantNumber(t, none, like(3, 10, 0, 0, 1, 1<<60), 8, api.ErrArg)
	// ErrOver ahead of ErrFit and of ErrBudget.
	wantNumber(t, x, needs(100, 0, 0, 1, 4, 1, 0, 0, 1, 1<<60), 8, api.ErrOver)
	wantNumber(t, node("AB", "a|b"), needs(1, 0, 0, 1, 1<<60, 1, 0, 0, 1, 4), 8, api.ErrOver)
	wantNumber(t, x, like(2, 1, 0, 0, 1, 1<<60), 8, api.ErrOver)
	// ErrFit ahead of ErrBudget, whether or not it takes steps to see it.
	wantNumber(t, x, like(2, 5, 0, 0, 1, 4), 9, api.ErrFit)
	wantNumber(t, node("AB", "a|b"), like(2, 1, 0, 0, 1, 4), 8, api.ErrFit)
	wantNumber(t, node("AC BD", "*ab|*cd", "ef"), like(6, 5, 0, 0, 1, 4), 19, api.ErrFit)
	wantOK(t, node("AC BD", "*ab|*cd", "ef"), like(6, 5, 0, 0, 1, 4), 20)
}

// Promise 16.1: budgets, one by one, up to the steps that it takes and beyond.
func TestBudgets(t *testing.T) {
	for _, x := range []api.Node{node("", "ab"), node("", "a", "b"), node("AC", "*ab|*cd"), node("AC BD", "*ab|cd", "ef|*gh", "i")} {
		l := like(len(x.Phases), 5, 3, 2, 1, 4)
		want, steps, e := Best(x, l, 200, math.MaxInt64)
		if e != api.OK || steps < int64(len(x.Groups)) {
			t.Fatal(want, steps, int(e))
		}
		for budget := int64(-3); budget < steps; budget++ {
			wantRefused(t, x, l, 200, budget, max(budget, 0), api.ErrBudget)
		}
		wantRefused(t, x, l, 200, math.MinInt64, 0, api.ErrBudget)
		for _, budget := range []int64{steps, steps + 1, 1 << 32, api.MaxBudget, math.MaxInt64 - 1, math.MaxInt64} {
			if s, took, e := Best(x, l, 200, budget); e != api.OK || took != steps || !sameShare(s, want) {
				t.Errorf("by %d of %d: %v, %d, %d", budget, steps, s, took, int(e))
			}
		}
	}
}

// Promise 16.1: a node without groups takes no steps: any budget from 0 on is enough.
func TestNoGroups(t *testing.T) {
	for _, x := range []api.Node{{}, {Phases: []api.Phase{{Name: "a"}, {Name: "b"}}}} {
		l := like(len(x.Phases), 5, 3, 2, 0, 1)
		for _, budget := range []int64{0, 1, math.MaxInt64} {
			if s, steps, e := Best(x, l, 1, budget); e != api.OK || steps != 0 || len(s.Fits) != 0 || s.Worst != fr(0, 1) {
				t.Errorf("by %d: %v, %d, %d", budget, s, steps, int(e))
			}
		}
		wantRefused(t, x, l, 1, -1, 0, api.ErrBudget)
		wantRefused(t, x, l, 1, math.MinInt64, 0, api.ErrBudget)
	}
}

// Promise 16.1: a phase in no ring is green as long as is wanted: it holds nobody, and makes no worst where another one is served.
func TestInNoRing(t *testing.T) {
	x := node("", "a")
	x.Phases = append(x.Phases, api.Phase{Name: "b"}, api.Phase{Name: "a"})
	one := api.Share{Fits: []api.Fit{fit(20, "0", []int64{0})}, Worst: fr(1, 60)}
	wantShare(t, x, needs(5, 3, 2, 1, 4, 5, 3, 2, 0, 1, 5, 3, 2, 0, 1), 20, api.Share{Fits: one.Fits, Worst: fr(1, 60)})
	wantShare(t, x, needs(5, 3, 2, 1, 4, 5, 3, 2, 1, 8, 5, 3, 2, 1, 9), 20, one)
	wantShare(t, x, needs(5, 3, 2, 1, 4, 5, 3, 2, 900, 1, 6000, 3000, 2, 900, 1), 20, one)
	// Where no other one is, its green counts as the whole cycle.
	wantShare(t, x, needs(5, 3, 2, 0, 1, 5, 3, 2, 1, 8, 5, 3, 2, 1, 9), 20, api.Share{Fits: one.Fits, Worst: fr(1, 160)})
	x.Groups = nil
	if s, steps, e := Best(x, needs(5, 3, 2, 1, 4, 5, 3, 2, 1, 8, 5, 3, 2, 0, 1), 20, 0); e != api.OK || steps != 0 || len(s.Fits) != 0 || s.Worst != fr(1, 80) {
		t.Error("no ring:", s, steps, int(e))
	}
}

// Promise 16.1: what a ring names and is not there lasts no time; of a name that two phases have the first one counts; a phase that stands in two groups has one green.
func TestNames(t *testing.T) {
	x := node("", "axb")
	x.Phases = slices.DeleteFunc(x.Phases, func(p api.Phase) bool { return p.Name == "x" })
	wantShare(t, x, needs(5, 3, 2, 1, 4, 5, 3, 2, 1, 8), 40, api.Share{Fits: []api.Fit{fit(40, "012", []int64{0, 25, 25})}, Worst: fr(1, 80)})
	x.Phases = nil
	wantShare(t, x, nil, 40, api.Share{Fits: []api.Fit{fit(40, "012", []int64{0, 0, 0})}, Worst: fr(0, 1)})
	twice := node("", "ab", "a")
	wantShare(t, twice, needs(5, 3, 2, 1, 4, 5, 3, 2, 1, 8), 60, api.Share{Fits: []api.Fit{fit(37, "01", []int64{0, 23}), fit(23, "0", []int64{0})}, Worst: fr(1, 72)})
}

// Promise 16.1: ratios at the ends of int64, whose quotients lie close together.
func TestGreatNumbers(t *testing.T) {
	x := node("", "ab")
	const most = math.MaxInt64
	wantShare(t, x, needs(1, 0, 0, most, 1, 1, 0, 0, most-1, 1), 11, api.Share{Fits: []api.Fit{fit(11, "01", []int64{0, 6})}, Worst: fr(most-1, 5)})
	wantShare(t, x, needs(1, 0, 0, most, 1, 1, 0, 0, most-1, 1), 10, api.Share{Fits: []api.Fit{fit(10, "01", []int64{0, 5})}, Worst: fr(most, 5)})
	wantShare(t, x, needs(1, 0, 0, most, 1, 1, 0, 0, 1, most/7), 7, api.Share{Fits: []api.Fit{fit(7, "01", []int64{0, 6})}, Worst: fr(most, 6)})
	wantShare(t, x, needs(1, 0, 0, 1, most/7, 1, 0, 0, 1, most/7-1), 7, api.Share{Fits: []api.Fit{fit(7, "01", []int64{0, 3})}, Worst: fr(1, most/7*3)})
	wantShare(t, x, needs(1, 0, 0, most, most/7-2, 1, 0, 0, most-1, most/7-2), 7, api.Share{Fits: []api.Fit{fit(7, "01", []int64{0, 4})}, Worst: fr((most-1)/3, most/7-2)})
	row := needs(1, 0, 0, most, 1, 1, 0, 0, most, 1, 1, 0, 0, most, 1, 1, 0, 0, most, 1)
	wantShare(t, node("", "abcd"), row, 6000, api.Share{Fits: []api.Fit{fit(6000, "0123", []int64{0, 1500, 3000, 4500})}, Worst: fr(most, 1500)})
}

// Promise 16.2: layouts, and things that are none.
func TestSplits(t *testing.T) {
	for _, r := range []struct {
		f    api.Fit
		want [][]int64
	}{
		{api.Fit{}, nil},
		{api.Fit{Least: 7}, nil},
		{fit(13, "012", []int64{0, 7, 9}), [][]int64{{7, 2, 4}}},
		{fit(20, "201", []int64{0, 7, 9}), [][]int64{{7, 2, 11}}},
		{fit(9, "01 10", []int64{0, 5}, []int64{0, 4}), [][]int64{{5, 4}, {4, 5}}},
		{fit(15, "01 0", []int64{0, 6}, []int64{0}), [][]int64{{6, 9}, {15}}},
		{fit(0, "01", []int64{0, 0}), [][]int64{{0, 0}}},
		{fit(6000, "0123 0", []int64{0, 0, 1, 5999}, []int64{0}), [][]int64{{0, 1, 5998, 1}, {6000}}},
		{fit(5, "0 01", nil, []int64{0, 3}), [][]int64{nil, {3, 2}}},
		{fit(5, "", []int64{0, 3}), [][]int64{{3, 2}}},
	} {
		if got := Splits(r.f); !slices.EqualFunc(got, r.want, slices.Equal[[]int64]) {
			t.Errorf("%v: %v, not %v", r.f, got, r.want)
		}
	}
	// What is no layout is told of, too, without a panic.
	Splits(fit(math.MinInt64, "5", []int64{math.MaxInt64, math.MinInt64, -1}, []int64{}, nil))
	Splits(api.Fit{Least: -1, Orders: [][]int{nil, {9}}, Starts: [][]int64{{5}, {1, 0}, {7, 7, 7}}})
}

// R4: Splits' answer is new memory, no two lists share any, and the layout is not changed.
func TestMemoryOfSplits(t *testing.T) {
	f := fit(15, "01 10", []int64{0, 6, 99}[:2], []int64{0, 4, 99}[:2])
	got := Splits(f)
	for r := range got {
		spoil(got[r], -int64(r)-1)
	}
	for r := range got {
		for _, n := range got[r][:cap(got[r])] {
			if n != -int64(r)-1 {
				t.Error("lists of one answer share memory:", got)
			}
		}
	}
	spoil(got, nil)
	if !sameFit(f, fit(15, "01 10", []int64{0, 6}, []int64{0, 4})) || f.Starts[0][:3][2] != 99 || f.Starts[1][:3][2] != 99 {
		t.Error("the layout has changed:", f)
	}
	if again := Splits(f); !slices.EqualFunc(again, [][]int64{{6, 9}, {4, 11}}, slices.Equal[[]int64]) {
		t.Error("again:", again)
	}
}

// spoil writes over all of a list's memory.
func spoil[T any](l []T, x T) {
	l = l[:cap(l)]
	for i := range l {
		l[i] = x
	}
}

// many is a node with something of all, its needs, and more of both behind the lists' ends.
func many() (api.Node, []api.Need) {
	x := node("AC BD EH", "*ab|cd", "ef|*gh", "i")
	x.Phases = append(x.Phases, api.Phase{Name: "y"}, api.Phase{Name: "z"})[:len(x.Phases)]
	x.Groups = append(x.Groups, api.Group{}, api.Group{})[:len(x.Groups)]
	x.Foes = append(x.Foes, api.Foe{A: "a"}, api.Foe{B: "b"})[:len(x.Foes)]
	l := like(11, 5, 3, 2, 1, 4)
	for i := range l {
		l[i].Ratio = fr(1, int64(i)+2)
		l[i].Walks = []api.Walk{{Ped: "w", Walk: int64(i)}, {}}[:1]
	}
	return x, l[:9]
}

// R4: what is handed in is not changed, behind the lists' ends neither.
func TestNotChanged(t *testing.T) {
	x, l := many()
	x2, l2 := many()
	whole := func(x api.Node, l []api.Need) (api.Node, []api.Need) {
		x.Phases, x.Groups, x.Foes = x.Phases[:cap(x.Phases)], x.Groups[:cap(x.Groups)], x.Foes[:cap(x.Foes)]
		l = slices.Clone(l[:11])
		for i := range l {
			l[i].Walks = l[i].Walks[:2]
		}
		return x, l
	}
	for _, c := range []int64{0, 10, 60, 200, 6000} {
		for _, budget := range []int64{-1, 0, 1, 20, math.MaxInt64} {
			Best(x, l, c, budget)
		}
	}
	Best(x, l[:8], 60, 100)
	gotX, gotL := whole(x, l)
	wantX, wantL := whole(x2, l2)
	if !reflect.DeepEqual(gotX, wantX) || !reflect.DeepEqual(gotL, wantL) {
		t.Error("changed:", gotX, gotL)
	}
}

// R4, R5: what is handed out is new memory, its lists share none, and a call answers the same again, whatever was called ahead.
func TestNewMemory(t *testing.T) {
	x, l := many()
	s, steps, e := Best(x, l, 200, math.MaxInt64)
	if e != api.OK || len(s.Fits) != 3 {
		t.Fatal(s, int(e))
	}
	kept := copyOf(s)
	for i := range l {
		l[i] = api.Need{}
	}
	for i := range x.Groups {
		clear(x.Groups[i].Rings)
	}
	if !sameShare(s, kept) {
		t.Error("the answer has changed with what was handed in:", s)
	}
	for i, f := range s.Fits {
		for r := range f.Orders {
			spoil(f.Orders[r], -3)
			spoil(f.Starts[r], -3)
			kept.Fits[i].Orders[r], kept.Fits[i].Starts[r] = slices.Repeat([]int{-3}, len(f.Orders[r])), slices.Repeat([]int64{-3}, len(f.Starts[r]))
			if !sameShare(s, kept) {
				t.Error("lists of one answer share memory:", s, kept)
			}
		}
		spoil(f.Orders, nil)
		spoil(f.Starts, nil)
		kept.Fits[i] = api.Fit{Least: f.Least, Orders: make([][]int, len(f.Orders)), Starts: make([][]int64, len(f.Starts))}
		if !sameShare(s, kept) {
			t.Error("lists of one answer share memory:", s, kept)
		}
	}
	x, l = many()
	first, _, _ := Best(x, l, 200, math.MaxInt64)
	first = copyOf(first)
	Best(x, l, 70, 3)
	Best(node("", "ab"), like(2, 5, 3, 2, 1, 4), 40, 100)
	again, took, e := Best(x, l, 200, math.MaxInt64)
	if e != api.OK || took != steps || !sameShare(again, first) {
		t.Error("again:", again, took, int(e))
	}
}

// R3: lists that are empty may be nil or not.
func TestEmptyLists(t *testing.T) {
	x := node("", "ab")
	x.Foes, x.Peds, x.Heads = []api.Foe{}, []api.Ped{}, []api.Head{}
	wantShare(t, x, needs(5, 3, 2, 1, 4, 5, 3, 2, 1, 8), 40, api.Share{Fits: []api.Fit{fit(40, "01", []int64{0, 25})}, Worst: fr(1, 80)})
	for _, l := range [][]api.Need{nil, {}} {
		for _, x := range []api.Node{{}, {Phases: []api.Phase{}, Groups: []api.Group{}}} {
			if s, steps, e := Best(x, l, 5, 0); e != api.OK || steps != 0 || len(s.Fits) != 0 || s.Worst != fr(0, 1) {
				t.Error(s, steps, int(e))
			}
		}
	}
}
