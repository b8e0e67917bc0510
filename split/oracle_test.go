package split

import (
	"math"
	"math/big"
	"math/rand"
	"slices"
	"strings"
	"testing"

	"carrefour/api"
	"carrefour/group"
	"carrefour/need"
)

// laid lays the groups of a node out, of each phase its green, yellow and red together; false, if a cycle is too short.
func laid(x api.Node, l []api.Need, greens []int64, c int64) ([]api.Fit, bool) {
	var times []int64
	for i, n := range l {
		times = append(times, greens[i]+n.Yellow+n.Red)
	}
	var fits []api.Fit
	for _, j := range need.Jobs(x, times) {
		f, _, e := group.Lay(j, math.MaxInt64)
		if e != api.OK || f.Least > c {
			return nil, false
		}
		c -= f.Least
		fits = append(fits, f)
	}
	if len(fits) > 0 {
		fits[len(fits)-1].Least += c
	}
	return fits, true
}

// worse tells whether one ratio by a green is greater than another one's, for small numbers.
func worse(r api.Frac, green int64, s api.Frac, other int64) bool {
	return r.Num*s.Den*other > s.Num*r.Den*green
}

// tried is what all greens of a node tell, gone through one by one.
type tried struct {
	ok     bool
	greens []int64 // the least ones of those with the least worst
	worst  api.Frac
	by     int64
	alike  int // how many greens have the least worst
}

// eachGreens goes through all greens that may fit a cycle: the phases are all in rings, of which no group has more than two.
func eachGreens(l []api.Need, c int64, meet func([]int64)) {
	greens := make([]int64, len(l))
	var choose func(int, int64)
	choose = func(k int, room int64) {
		if k == len(l) {
			meet(greens)
			return
		}
		n := l[k]
		for greens[k] = n.Green; greens[k]+n.Yellow+n.Red <= min(c, room); greens[k]++ {
			choose(k+1, room-greens[k]-n.Yellow-n.Red)
		}
	}
	choose(0, 2*c)
}

func goThrough(x api.Node, l []api.Need, c int64) tried {
	var best tried
	eachGreens(l, c, func(greens []int64) {
		worst, by := fr(0, 1), int64(1)
		for i, g := range greens {
			if worse(l[i].Ratio, g, worst, by) {
				worst, by = l[i].Ratio, g
			}
		}
		if best.ok && worse(worst, by, best.worst, best.by) {
			return
		}
		if _, ok := laid(x, l, greens, c); !ok {
			return
		}
		if !best.ok || worse(best.worst, best.by, worst, by) {
			best = tried{true, slices.Clone(greens), worst, by, 0}
		}
		best.alike++
		for i, g := range greens {
			best.greens[i] = min(best.greens[i], g)
		}
	})
	return best
}

// asRat tells a fraction whole.
func asRat(f api.Frac) *big.Rat { return big.NewRat(f.Num, f.Den) }

// holdLayouts holds that a share's layouts fill the cycle, and do what the jobs ask.
func holdLayouts(t *testing.T, x api.Node, l []api.Need, c int64, s api.Share) {
	t.Helper()
	jobs := need.Jobs(x, need.Least(l))
	if len(jobs) != len(s.Fits) {
		t.Fatalf("%v: %d layouts", x.Groups, len(s.Fits))
	}
	var all int64
	for k, f := range s.Fits {
		all += f.Least
		splits := Splits(f)
		if len(splits) != len(jobs[k].Rows) || len(f.Orders) != len(splits) || len(f.Starts) != len(splits) {
			t.Fatalf("%v: %v", jobs[k], f)
		}
		for r, row := range jobs[k].Rows {
			holdRing(t, row, jobs[k].Free[r], f.Least, f.Orders[r], f.Starts[r], splits[r])
		}
		for _, p := range jobs[k].Apart {
			a, b := slices.Index(f.Orders[0], p.A), slices.Index(f.Orders[1], p.B)
			a1, b1 := f.Starts[0][a], f.Starts[1][b]
			if a1+splits[0][a] > b1 && b1+splits[1][b] > a1 {
				t.Fatalf("%v: %v: %v are not apart", jobs[k], f, p)
			}
		}
	}
	if all != c && len(jobs) > 0 {
		t.Fatalf("%v of %d: %d", s, c, all)
	}
}

// holdRing holds that the phases of a ring follow one another from 0 to the group's end, each as long as it needs at least, in an order that may be.
func holdRing(t *testing.T, row []int64, free bool, long int64, p []int, starts, splits []int64) {
	t.Helper()
	sorted := slices.Sorted(slices.Values(p))
	if len(p) != len(row) || len(starts) != len(row) || len(splits) != len(row) || !free && !slices.IsSorted(p) {
		t.Fatalf("%v: %v %v %v", row, p, starts, splits)
	}
	var at int64
	for k, phase := range p {
		if sorted[k] != k || starts[k] != at || splits[k] < row[phase] {
			t.Fatalf("%v: %v %v %v", row, p, starts, splits)
		}
		at += splits[k]
	}
	if at != long {
		t.Fatalf("%v: %v %v, not to %d", row, p, splits, long)
	}
}

// holdTried holds Best against all greens, gone through one by one.
func holdTried(t *testing.T, x api.Node, l []api.Need, c int64) tried {
	t.Helper()
	best := goThrough(x, l, c)
	s, steps, e := Best(x, l, c, math.MaxInt64)
	if !best.ok {
		if e != api.ErrFit || steps != 0 {
			t.Fatalf("%v of %v, %d: %v, %d, %d; not ErrFit", x, l, c, s, steps, int(e))
		}
		wantNumber(t, x, l, c, api.ErrFit)
		return best
	}
	// The ones that are nowhere greater fit, too, and have that worst.
	fits, ok := laid(x, l, best.greens, c)
	if !ok {
		t.Fatalf("%v of %v, %d: no least greens: %v", x, l, c, best)
	}
	worst := new(big.Rat).Quo(asRat(best.worst), big.NewRat(best.by, 1))
	want := api.Share{Fits: fits, Worst: fr(worst.Num().Int64(), worst.Denom().Int64())}
	if e != api.OK || !sameShare(s, want) {
		t.Fatalf("%v of %v, %d: %v, %d, %d; not %v by %v", x, l, c, s, steps, int(e), want, best)
	}
	wantShare(t, x, l, c, want)
	holdLayouts(t, x, l, c, s)
	return best
}

// shapes are groups of up to four phases, and foes.
var shapes = []struct{ foes, groups string }{
	{"", "a"}, {"", "ab"}, {"", "*ba"}, {"", "a b"}, {"", "a|b"}, {"AB", "a|b"}, {"", "abc"}, {"", "a cb"}, {"", "a|b c"}, {"", "ab|c"},
	{"BC", "ab|c"}, {"AC", "ab|c"}, {"AC", "*ab|c"}, {"AC BC", "ab|c"}, {"", "ab|cd"}, {"AD", "ab|cd"}, {"BC", "ab|*cd"}, {"AD CB", "ab|cd"},
	{"AC", "ab|*cd"}, {"AC", "*ab|*cd"}, {"BD CA", "*ab|cd"}, {"", "a|b c|d"}, {"BC", "ab|c d"}, {"BC", "d ab|c"}, {"", "a b c d"}, {"BC CA", "abd|c"}, {"DC BC", "ab|c d"},
}

func shaped(k int) api.Node {
	return node(shapes[k].foes, strings.Fields(shapes[k].groups)...)
}

// someNeeds makes needs by chance, with so many kinds of ratios, of which one is 0.
func someNeeds(r *rand.Rand, n int, green, clear int64, ratios ...api.Frac) []api.Need {
	var l []api.Need
	for range n {
		l = append(l, api.Need{Green: 1 + r.Int63n(green), Yellow: r.Int63n(clear), Red: r.Int63n(clear), Ratio: ratios[r.Intn(len(ratios))]})
	}
	return l
}

// Promises 16.1 and 16.3: small nodes, held against all greens that fit.
func TestAllGreens(t *testing.T) {
	r := rand.New(rand.NewSource(16))
	none, several, nought := 0, 0, 0
	for k := range 1350 {
		x := shaped(k % len(shapes))
		ratios := [][]api.Frac{
			{fr(0, 1), fr(1, 4), fr(1, 8)}, {fr(1, 3), fr(1, 2), fr(2, 5), fr(5, 7)}, {fr(0, 1)}, {fr(1, 1)},
			{fr(0, 1), fr(0, 1), fr(9, 10)}, {fr(1, 100), fr(3, 1), fr(2, 1)}, {fr(99, 100), fr(98, 99), fr(97, 98)},
		}[k/len(shapes)%7]
		l := someNeeds(r, len(x.Phases), 1+r.Int63n(3), 2, ratios...)
		var all int64
		for _, n := range need.Least(l) {
			all += n
		}
		best := holdTried(t, x, l, 1+all*3/5+r.Int63n([]int64{40, 20, 10, 7}[len(l)-1]))
		switch {
		case !best.ok:
			none++
		case best.worst.Num == 0:
			nought++
		case best.alike > 1:
			several++
		}
	}
	if none < 200 || several < 400 || nought < 80 {
		t.Error("nodes of which nothing fits:", none, "of which several greens have the least worst:", several, "without a ratio:", nought)
	}
}

// Promise 16.1: every cycle of a few nodes, one by one, up to where all greens have room.
func TestAllCycles(t *testing.T) {
	for k := range shapes {
		x := shaped(k)
		l := needs(2, 0, 1, 1, 2, 1, 1, 0, 1, 3, 1, 0, 0, 2, 3, 1, 0, 0, 1, 5)[:len(x.Phases)]
		for c := int64(1); c <= []int64{60, 24, 16, 11}[len(l)-1]; c++ {
			holdTried(t, x, l, c)
		}
	}
}

// leastGreen tells by math/big the least green by which a ratio is not above a worst, or, if less is asked for, below it; it is above a cycle, if that is too short.
func leastGreen(n api.Need, worst *big.Rat, less bool, c int64) int64 {
	if n.Ratio.Num == 0 {
		return n.Green
	}
	if worst.Sign() == 0 {
		return c + 1
	}
	q := new(big.Rat).Quo(asRat(n.Ratio), worst)
	g := new(big.Int).Quo(q.Num(), q.Denom())
	if less || !q.IsInt() {
		g.Add(g, big.NewInt(1))
	}
	if g.Cmp(big.NewInt(c)) > 0 {
		return c + 1
	}
	return max(n.Green, g.Int64())
}

// holdWorst holds, for any node whose phases are all in rings, that a share's worst is the least one: its greens fit, those of any lesser worst don't. (Greens that are nowhere less fit no better: 15.3.)
func holdWorst(t *testing.T, x api.Node, l []api.Need, c int64, s api.Share) {
	t.Helper()
	worst := asRat(s.Worst)
	var greens, more []int64
	found := new(big.Rat)
	for _, n := range l {
		g := leastGreen(n, worst, false, c)
		by := new(big.Rat).Quo(asRat(n.Ratio), big.NewRat(g, 1))
		if by.Cmp(found) > 0 {
			found = by
		}
		greens = append(greens, g)
		more = append(more, leastGreen(n, worst, true, c))
	}
	if found.Cmp(worst) != 0 || !worst.Denom().IsInt64() || s.Worst.Den != worst.Denom().Int64() {
		t.Fatalf("%v of %d: %v, but the greens %v have %v", l, c, s, greens, found)
	}
	fits, ok := laid(x, l, greens, c)
	if !ok || !slices.EqualFunc(s.Fits, fits, sameFit) {
		t.Fatalf("%v of %d: %v, but the greens %v are laid out as %v", l, c, s, greens, fits)
	}
	if fits, ok := laid(x, l, more, c); ok && worst.Sign() > 0 && !slices.Contains(more, c+1) {
		t.Fatalf("%v of %d: %v, but greens %v of a lesser worst fit: %v", l, c, s, more, fits)
	}
}

// anyNode makes a node by chance, of as many as eight phases a group, each in a ring, and foes.
func anyNode(r *rand.Rand, groups, row int) api.Node {
	letters := strings.Split("abcdefghijklmnopqrstuvwxyz", "")
	r.Shuffle(len(letters), func(i, j int) { letters[i], letters[j] = letters[j], letters[i] })
	var told, foes []string
	for range 1 + r.Intn(groups) {
		var rings []string
		for range 1 + r.Intn(2) {
			n := 1 + r.Intn(row)
			rings = append(rings, []string{"", "*"}[r.Intn(2)]+strings.Join(letters[:n], ""))
			letters = letters[n:]
		}
		told = append(told, strings.Join(rings, "|"))
		if len(rings) < 2 || r.Intn(3) == 0 {
			continue
		}
		first, second := strings.ToUpper(strings.Trim(rings[0], "*")), strings.ToUpper(strings.Trim(rings[1], "*"))
		for range 1 + r.Intn(2) {
			a, b := r.Intn(len(first)), r.Intn(len(second))
			foes = append(foes, first[a:a+1]+second[b:b+1])
		}
	}
	return node(strings.Join(foes, " "), told...)
}

// anyRatio makes a ratio by chance: a common one, or one with great numbers.
func anyRatio(r *rand.Rand, c int64) api.Frac {
	top, bottom := int64(1000), int64(2000)
	switch r.Intn(6) {
	case 0:
		return fr(0, 1)
	case 1:
		top, bottom = math.MaxInt64, math.MaxInt64/c
	case 2:
		top, bottom = 3, math.MaxInt64/c
	}
	q := big.NewRat(1+r.Int63n(top), 1+r.Int63n(bottom))
	return fr(q.Num().Int64(), q.Denom().Int64())
}

// Promises 16.1 and 16.3: nodes by chance, up to the greatest ones and the longest cycles, with ratios at the ends of int64.
func TestByChance(t *testing.T) {
	r := rand.New(rand.NewSource(161))
	none, served := 0, 0
	for k := range 1500 {
		x := anyNode(r, 1+k%3, 1+k/3%4)
		c := []int64{100, 600, 1200, 6000}[r.Intn(4)]
		var l []api.Need
		for range x.Phases {
			l = append(l, api.Need{Green: 1 + r.Int63n(1+c/int64(len(x.Phases)*2)), Yellow: r.Int63n(1 + c/200), Red: r.Int63n(1 + c/200), Ratio: anyRatio(r, c)})
		}
		s, steps, e := Best(x, l, c, math.MaxInt64)
		if e == api.ErrFit {
			if _, ok := laid(x, l, greensOf(l), c); ok || steps != 0 {
				t.Fatalf("%v of %v, %d: ErrFit, %d", x, l, c, steps)
			}
			none++
			continue
		}
		if e != api.OK {
			t.Fatalf("%v of %v, %d: %d", x, l, c, int(e))
		}
		if s.Worst.Num > 0 {
			served++
		}
		holdWorst(t, x, l, c, s)
		holdLayouts(t, x, l, c, s)
		if k%10 == 0 {
			wantShare(t, x, l, c, copyOf(s))
		}
	}
	if none < 100 || served < 700 {
		t.Error("nodes of which nothing fits:", none, "with a worst:", served)
	}
}

func greensOf(l []api.Need) []int64 {
	var greens []int64
	for _, n := range l {
		greens = append(greens, n.Green)
	}
	return greens
}

// Promise 16.3: a longer cycle has no greater worst, and fits where a shorter one does.
func TestLongerCycles(t *testing.T) {
	r := rand.New(rand.NewSource(163))
	lesser := 0
	for range 60 {
		x := anyNode(r, 3, 3)
		var l []api.Need
		for range x.Phases {
			l = append(l, api.Need{Green: 1 + r.Int63n(9), Yellow: r.Int63n(3), Red: r.Int63n(3), Ratio: anyRatio(r, 700)})
		}
		var last *big.Rat
		for c := int64(1); c <= 700; c += 1 + r.Int63n(1+c/8) {
			s, _, e := Best(x, l, c, math.MaxInt64)
			if last != nil && e != api.OK || e != api.OK && e != api.ErrFit {
				t.Fatalf("%v of %v, %d: %d, but a shorter cycle fits", x, l, c, int(e))
			}
			if e != api.OK {
				continue
			}
			holdWorst(t, x, l, c, s)
			worst := asRat(s.Worst)
			if last != nil && worst.Cmp(last) > 0 {
				t.Fatalf("%v of %v, %d: %v, but of a shorter cycle %v", x, l, c, worst, last)
			}
			if last != nil && worst.Cmp(last) < 0 {
				lesser++
			}
			last = worst
		}
	}
	if lesser < 500 {
		t.Error("longer cycles with a lesser worst:", lesser)
	}
}

// R5: foes, groups and needs that say the same, in other words, tell the same.
func TestSaidOtherwise(t *testing.T) {
	r := rand.New(rand.NewSource(165))
	for range 100 {
		x := anyNode(r, 3, 3)
		var l []api.Need
		for range x.Phases {
			l = append(l, api.Need{Green: 1 + r.Int63n(20), Yellow: r.Int63n(9), Red: r.Int63n(9), Ratio: anyRatio(r, 600)})
		}
		s, steps, e := Best(x, l, 600, math.MaxInt64)
		// The phases stand in another order, and with them the needs; foes are told the other way round, and twice.
		y := x
		y.Phases, y.Foes = slices.Clone(x.Phases), slices.Clone(x.Foes)
		m := slices.Clone(l)
		r.Shuffle(len(m), func(i, j int) {
			m[i], m[j] = m[j], m[i]
			y.Phases[i], y.Phases[j] = y.Phases[j], y.Phases[i]
		})
		for _, f := range x.Foes {
			y.Foes = append(y.Foes, api.Foe{A: f.B, B: f.A})
		}
		for i := range m {
			m[i].Phase, m[i].Walks = "nobody", []api.Walk{{Walk: 7}}
		}
		if again, took, e2 := Best(y, m, 600, math.MaxInt64); e2 != e || took != steps || !sameShare(again, s) {
			t.Fatalf("%v of %v: %v, %d, %d; said otherwise %v, %d, %d", x, l, s, steps, int(e), again, took, int(e2))
		}
	}
}
