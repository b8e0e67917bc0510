package paths

import (
	"math/rand"
	"slices"
	"testing"

	"carrefour/api"
)

// told is what a graph's ways tell, gone through one by one.
type told struct {
	circle bool
	far    []int64
	ways   [][]int
}

// goThrough goes all ways from 0 that go by no point twice: each of them is a longest one so far, or it isn't; each edge from its end back to it closes a circle.
func goThrough(n int, l []api.Edge) told {
	x := told{far: make([]int64, n), ways: make([][]int, n)}
	for p := range x.far {
		x.far[p] = -1
	}
	lengths := make([]int64, n)
	var goOn func(way []int)
	goOn = func(way []int) {
		at := way[len(way)-1]
		longer := lengths[at] - x.far[at]
		if longer > 0 || longer == 0 && slices.Compare(way, x.ways[at]) < 0 {
			x.far[at], x.ways[at] = lengths[at], slices.Clone(way)
		}
		for _, e := range l {
			switch {
			case e.From != at:
			case slices.Contains(way, e.To):
				x.circle = x.circle || lengths[at]+e.Len > lengths[e.To]
			default:
				lengths[e.To] = lengths[at] + e.Len
				goOn(append(way, e.To))
			}
		}
	}
	goOn([]int{0})
	if x.circle {
		return told{circle: true}
	}
	return x
}

// hold holds Longest and Way against all ways of a graph of few points.
func hold(t *testing.T, n int, l []api.Edge) told {
	t.Helper()
	want := goThrough(n, l)
	far, e := Longest(n, l)
	if want.circle != (e == api.ErrCircle) || !want.circle && e != api.OK || !slices.Equal(far, want.far) {
		t.Fatalf("Longest of %d points and %v: %v, %v, not %v", n, l, far, e, want)
	}
	for to := -1; to <= n; to++ {
		var way []int
		if to >= 0 && to < n && !want.circle {
			way = want.ways[to]
		}
		if got := Way(n, l, to); !slices.Equal(got, way) {
			t.Fatalf("Way to %d of %d points and %v: %v, not %v", to, n, l, got, way)
		}
	}
	return want
}

// eachGraph goes through all graphs of n points that have an edge from each point to each other one (to itself, too, if loops) of one of the lengths, or none.
func eachGraph(n int, loops bool, lengths []int64, meet func([]api.Edge)) {
	var pairs []api.Edge
	for from := range n {
		for to := range n {
			if loops || from != to {
				pairs = append(pairs, api.Edge{From: from, To: to})
			}
		}
	}
	var choose func(k int, l []api.Edge)
	choose = func(k int, l []api.Edge) {
		if k == len(pairs) {
			meet(l)
			return
		}
		choose(k+1, l)
		for _, length := range lengths {
			choose(k+1, append(l, api.Edge{From: pairs[k].From, To: pairs[k].To, Len: length}))
		}
	}
	choose(0, make([]api.Edge, 0, len(pairs)))
}

// Promises 14.1 and 14.2: all graphs of one to three points, and of four with edges of length 0 or 1, with all their ways.
func TestAllSmallGraphs(t *testing.T) {
	for _, r := range []struct {
		n       int
		loops   bool
		lengths []int64
		graphs  int
	}{
		{1, true, []int64{0, 1, 6000}, 4},
		{2, true, []int64{0, 1, 2, 6000}, 625},
		{3, true, []int64{0, 1}, 19683},
		{3, false, []int64{0, 1, 2}, 4096},
		{4, false, []int64{0, 1}, 531441},
	} {
		graphs := 0
		eachGraph(r.n, r.loops, r.lengths, func(l []api.Edge) {
			graphs++
			hold(t, r.n, l)
			back := slices.Clone(l)
			slices.Reverse(back)
			hold(t, r.n, back)
		})
		if graphs != r.graphs {
			t.Errorf("%d graphs of %d points were gone through, not %d", graphs, r.n, r.graphs)
		}
	}
}

// anyGraph makes a graph of edges by chance: most of them have a circle that grows, unless they have few edges.
func anyGraph(chance *rand.Rand, n, edges int) []api.Edge {
	lengths := []int64{0, 0, 0, 1, 1, 2, 3, 6000}
	l := make([]api.Edge, edges)
	for i := range l {
		l[i] = api.Edge{From: chance.Intn(n), To: chance.Intn(n), Len: lengths[chance.Intn(len(lengths))]}
	}
	return l
}

// hilly makes a graph of points that have heights, 0 the lowest one: no edge is longer than it rises, and most are just so long, so that no circle grows and many ways are longest ones.
func hilly(chance *rand.Rand, n, edges int, top, slack int64) []api.Edge {
	heights := make([]int64, n)
	for p := 1; p < n; p++ {
		heights[p] = chance.Int63n(top + 1)
	}
	var l []api.Edge
	for len(l) < edges {
		from, to := chance.Intn(n), chance.Intn(n)
		if rise := heights[to] - heights[from]; rise >= 0 {
			l = append(l, api.Edge{From: from, To: to, Len: max(0, rise-max(0, chance.Int63n(2*slack+1)-slack))})
		}
	}
	return l
}

// Promises 14.1 and 14.2: graphs of one to seven points by chance, with several edges between two points, edges from a point to itself, and circles.
func TestGraphsByChance(t *testing.T) {
	chance := rand.New(rand.NewSource(14))
	circles, cut := 0, 0
	for range 40000 {
		n := 1 + chance.Intn(7)
		x := hold(t, n, anyGraph(chance, n, chance.Intn(2*n+3)))
		if x.circle {
			circles++
		} else if slices.Contains(x.far, -1) {
			cut++
		}
	}
	if circles < 4000 || cut < 4000 {
		t.Error("graphs with a circle that grows:", circles, "and with a point that no way leads to:", cut)
	}
}

// Promise 14.2: graphs of which many ways are longest ones, and circles of length 0 beside them.
func TestHillyGraphsByChance(t *testing.T) {
	chance := rand.New(rand.NewSource(41))
	for range 20000 {
		n := 2 + chance.Intn(6)
		l := hilly(chance, n, 1+chance.Intn(3*n), chance.Int63n(5), chance.Int63n(3))
		if x := hold(t, n, l); x.circle {
			t.Fatalf("%v has a circle that grows", l)
		}
	}
}

// Promises 14.1 and 14.2: edges in another row tell the same.
func TestRowOfEdges(t *testing.T) {
	chance := rand.New(rand.NewSource(3))
	for range 300 {
		n := 2 + chance.Intn(api.MaxPoints-1)
		l := hilly(chance, n, 1+chance.Intn(4*n), 9, 1)
		if chance.Intn(4) == 0 {
			l = anyGraph(chance, n, 1+chance.Intn(4*n))
		}
		other := slices.Clone(l)
		chance.Shuffle(len(other), func(i, j int) { other[i], other[j] = other[j], other[i] })
		far, e := Longest(n, l)
		far2, e2 := Longest(n, other)
		if e != e2 || !slices.Equal(far, far2) {
			t.Fatalf("Longest of %d points and %v: %v, %v, and in another row %v, %v", n, l, far, e, far2, e2)
		}
		for to := range n {
			if way, way2 := Way(n, l, to), Way(n, other, to); !slices.Equal(way, way2) {
				t.Fatalf("Way to %d of %d points and %v: %v, and in another row %v", to, n, l, way, way2)
			}
		}
	}
}

// between tells the longest way from each point to each other one by going by ever more points; true, if a circle that 0 leads to grows.
func between(n int, l []api.Edge) ([]int64, bool) {
	far := make([][]int64, n)
	for p := range far {
		far[p] = slices.Repeat([]int64{-1}, n)
		far[p][p] = 0
	}
	for _, e := range l {
		far[e.From][e.To] = max(far[e.From][e.To], e.Len)
	}
	for by := range n {
		for from := range n {
			for to := range n {
				if far[from][by] >= 0 && far[by][to] >= 0 {
					// What grows may double each time: it need not be told how far.
					far[from][to] = min(1<<40, max(far[from][to], far[from][by]+far[by][to]))
				}
			}
		}
	}
	for p := range n {
		if far[0][p] >= 0 && far[p][p] > 0 {
			return nil, true
		}
	}
	return far[0], false
}

// leads says whether longest ways go on from a point to another one by no point of those that are gone by.
func leads(l []api.Edge, far []int64, from, to int, gone []int) bool {
	if from == to {
		return true
	}
	met := map[int]int{from: 1}
	for left := []int{from}; len(left) > 0; left = left[1:] {
		for _, e := range l {
			if e.From != left[0] || far[e.From]+e.Len != far[e.To] || met[e.To] > 0 || slices.Contains(gone, e.To) {
				continue
			}
			if e.To == to {
				return true
			}
			met[e.To]++
			left = append(left, e.To)
		}
	}
	return false
}

// holdWay holds a way against the chapter's words: its points, its length, and that no lesser point could stand at any of its places.
func holdWay(t *testing.T, l []api.Edge, far []int64, to int, way []int) {
	t.Helper()
	if len(way) == 0 || way[0] != 0 || way[len(way)-1] != to {
		t.Fatalf("Way to %d of %v: %v", to, l, way)
	}
	length := int64(0)
	for i := 1; i < len(way); i++ {
		longest := int64(-1)
		for _, e := range l {
			if e.From == way[i-1] && e.To == way[i] {
				longest = max(longest, e.Len)
			}
		}
		if longest < 0 || slices.Contains(way[:i], way[i]) {
			t.Fatalf("Way to %d of %v: %v goes wrong at place %d", to, l, way, i)
		}
		length += longest
		for _, e := range l {
			lesser := e.From == way[i-1] && e.To < way[i] && far[e.From]+e.Len == far[e.To] && !slices.Contains(way[:i], e.To)
			if lesser && leads(l, far, e.To, to, way[:i]) {
				t.Fatalf("Way to %d of %v: %v, though it might go on to %d at place %d", to, l, way, e.To, i)
			}
		}
	}
	if length != far[to] {
		t.Fatalf("Way to %d of %v: %v is %d long, not %d", to, l, way, length, far[to])
	}
}

// Promises 14.1 and 14.2: graphs of up to MaxPoints points and 1000 edges.
func TestGreatGraphsByChance(t *testing.T) {
	chance := rand.New(rand.NewSource(64))
	ends := [2]int{}
	for k := range 240 {
		n := api.MaxPoints - chance.Intn(1+k%40)
		edges := []int{n / 2, n, 2 * n, 4 * n, 1000}[chance.Intn(5)]
		var l []api.Edge
		switch k % 3 {
		case 0:
			l = anyGraph(chance, n, edges)
		case 1:
			l = hilly(chance, n, edges, 6000, 0)
		default:
			l = hilly(chance, n, edges, 3, 1)
		}
		want, circle := between(n, l)
		far, e := Longest(n, l)
		if circle != (e == api.ErrCircle) || !circle && e != api.OK || !slices.Equal(far, want) {
			t.Fatalf("Longest of %d points and %v: %v, %v, not %v", n, l, far, e, want)
		}
		if circle {
			ends[0]++
		} else {
			ends[1]++
		}
		for to := range n {
			way := Way(n, l, to)
			if circle || far[to] < 0 {
				if way != nil {
					t.Fatalf("Way to %d of %d points and %v: %v, not none", to, n, l, way)
				}
				continue
			}
			holdWay(t, l, far, to, way)
		}
	}
	if ends[0] < 20 || ends[1] < 100 {
		t.Error("graphs with a circle that grows, and without:", ends)
	}
}

// fitsAll says whether numbers fit each edge whose first point has one.
func fitsAll(l []api.Edge, x []int64) bool {
	for _, e := range l {
		if x[e.From] >= 0 && x[e.To] < x[e.From]+e.Len {
			return false
		}
	}
	return true
}

// Promise 14.3: Longest fits each edge from a point that a way leads to, and nothing lesser does, 0 at point 0.
func TestLeastThatFits(t *testing.T) {
	chance := rand.New(rand.NewSource(143))
	tried := 0
	for range 6000 {
		n := 1 + chance.Intn(5)
		l := hilly(chance, n, chance.Intn(3*n), 3, chance.Int63n(2))
		far, e := Longest(n, l)
		if e != api.OK || far[0] != 0 || !fitsAll(l, far) {
			t.Fatalf("Longest of %d points and %v: %v, %v", n, l, far, e)
		}
		x := slices.Clone(far)
		var lower func(p int)
		lower = func(p int) {
			if p == n {
				tried++
				if !slices.Equal(x, far) && fitsAll(l, x) {
					t.Fatalf("Longest of %d points and %v: %v, though %v fits", n, l, far, x)
				}
				return
			}
			lower(p + 1)
			for x[p] > 0 {
				x[p]--
				lower(p + 1)
			}
			x[p] = far[p]
		}
		lower(1)
	}
	if tried < 20000 {
		t.Error("numbers that were tried:", tried)
	}
}
