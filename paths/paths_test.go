package paths

import (
	"math"
	"slices"
	"testing"

	"carrefour/api"
)

// edges tells edges by their numbers, three an edge: from, to, length.
func edges(numbers ...int) []api.Edge {
	var l []api.Edge
	for i := 0; i+2 < len(numbers); i += 3 {
		l = append(l, api.Edge{From: numbers[i], To: numbers[i+1], Len: int64(numbers[i+2])})
	}
	return l
}

// same tells n times the same edge.
func same(n int, e api.Edge) []api.Edge { return slices.Repeat([]api.Edge{e}, n) }

// rising tells the points from 0 to n - 1.
func rising(n int) []int {
	var p []int
	for i := range n {
		p = append(p, i)
	}
	return p
}

// wantError holds that Longest answers an error, and nothing beside it, and that there is no way then.
func wantError(t *testing.T, n int, l []api.Edge, want api.Errno) {
	t.Helper()
	if far, e := Longest(n, l); e != want || far != nil {
		t.Errorf("Longest of %d points and %d edges: %v, %d, not %d", n, len(l), far, int(e), int(want))
	}
	for _, to := range []int{-1, 0, 1, n - 1, n} {
		if way := Way(n, l, to); way != nil {
			t.Errorf("Way to %d of %d points and %d edges: %v, not none", to, n, len(l), way)
		}
	}
}

// Promises 14.1 and 14.2: the chapter's examples.
func TestExamples(t *testing.T) {
	l := edges(0, 1, 3, 1, 2, 4, 0, 2, 5)
	if far, e := Longest(3, l); e != api.OK || !slices.Equal(far, []int64{0, 3, 7}) {
		t.Error(far, e)
	}
	if way := Way(3, l, 2); !slices.Equal(way, []int{0, 1, 2}) {
		t.Error(way)
	}
	wantError(t, 3, append(l, edges(2, 1, 0)...), api.ErrCircle)
}

// Promises 14.1 and 14.2: graphs and their ways, written out; of no point that no way leads to there is one.
func TestGraphs(t *testing.T) {
	for _, r := range []struct {
		name string
		n    int
		l    []api.Edge
		far  []int64
		ways [][]int
	}{
		{"one point", 1, nil, []int64{0}, [][]int{{0}}},
		{"points without edges", 3, []api.Edge{}, []int64{0, -1, -1}, [][]int{{0}, nil, nil}},
		{"an edge of length 0", 2, edges(0, 1, 0), []int64{0, 0}, [][]int{{0}, {0, 1}}},
		{"an edge to 0 alone", 2, edges(1, 0, 5), []int64{0, -1}, [][]int{{0}, nil}},
		{"an edge from where no way leads", 3, edges(2, 1, 9, 0, 1, 4), []int64{0, 4, -1}, [][]int{{0}, {0, 1}, nil}},
		{"such an edge that seems to fit", 3, edges(2, 1, 1, 0, 1, 0, 1, 0, 0), []int64{0, 0, -1}, [][]int{{0}, {0, 1}, nil}},
		{"such edges between two such points", 4, edges(2, 3, 0, 3, 2, 0, 3, 1, 7), []int64{0, -1, -1, -1}, [][]int{{0}, nil, nil, nil}},
		{"several edges, the longest in the midst", 2, edges(0, 1, 2, 0, 1, 5, 0, 1, 5, 0, 1, 0), []int64{0, 5}, [][]int{{0}, {0, 1}}},
		{"a point to itself", 2, edges(0, 0, 0, 0, 1, 3, 1, 1, 0), []int64{0, 3}, [][]int{{0}, {0, 1}}},
		{"the longer one by more points", 4, edges(0, 3, 5, 0, 1, 2, 1, 2, 2, 2, 3, 2), []int64{0, 2, 4, 6}, [][]int{{0}, {0, 1}, {0, 1, 2}, {0, 1, 2, 3}}},
		{"the longer one by fewer points", 4, edges(0, 3, 7, 0, 1, 2, 1, 2, 2, 2, 3, 2), []int64{0, 2, 4, 7}, [][]int{{0}, {0, 1}, {0, 1, 2}, {0, 3}}},
		{"as long: by more points", 4, edges(0, 3, 6, 0, 1, 2, 1, 2, 2, 2, 3, 2), []int64{0, 2, 4, 6}, [][]int{{0}, {0, 1}, {0, 1, 2}, {0, 1, 2, 3}}},
		{"as long: by fewer points", 4, edges(0, 3, 3, 3, 1, 6, 0, 1, 9), []int64{0, 9, -1, 3}, [][]int{{0}, {0, 1}, nil, {0, 3}}},
		{"as long: unlike at first", 4, edges(0, 2, 1, 2, 3, 2, 0, 1, 2, 1, 3, 1), []int64{0, 2, 1, 3}, [][]int{{0}, {0, 1}, {0, 2}, {0, 1, 3}}},
		{"as long: unlike at last", 6, edges(0, 1, 1, 1, 4, 1, 4, 5, 1, 1, 3, 1, 3, 5, 1, 1, 2, 1, 2, 5, 0), []int64{0, 1, 2, 2, 2, 3}, [][]int{{0}, {0, 1}, {0, 1, 2}, {0, 1, 3}, {0, 1, 4}, {0, 1, 3, 5}}},
		{"as long: what is greater later on does not count", 5, edges(0, 1, 1, 1, 4, 0, 4, 3, 1, 0, 2, 1, 2, 3, 1), []int64{0, 1, 1, 2, 1}, [][]int{{0}, {0, 1}, {0, 2}, {0, 1, 4, 3}, {0, 1, 4}}},
		{"a circle of length 0 by 0", 3, edges(0, 1, 0, 1, 0, 0, 0, 2, 0), []int64{0, 0, 0}, [][]int{{0}, {0, 1}, {0, 2}}},
		{"a circle of length 0 that is a detour", 4, edges(0, 2, 4, 2, 1, 0, 1, 2, 0, 1, 3, 5, 2, 3, 5), []int64{0, 4, 4, 9}, [][]int{{0}, {0, 2, 1}, {0, 2}, {0, 2, 1, 3}}},
		{"a circle of length 0 that leads nowhere else", 5, edges(0, 3, 4, 3, 1, 0, 1, 3, 0, 3, 2, 1, 2, 4, 1), []int64{0, 4, 5, 4, 6}, [][]int{{0}, {0, 3, 1}, {0, 3, 2}, {0, 3}, {0, 3, 2, 4}}},
		{"a circle of length 0 back to where the way has been", 6, edges(0, 4, 0, 4, 3, 0, 3, 1, 0, 1, 2, 0, 2, 4, 0, 3, 5, 0, 4, 5, 0), []int64{0, 0, 0, 0, 0, 0}, [][]int{{0}, {0, 4, 3, 1}, {0, 4, 3, 1, 2}, {0, 4, 3}, {0, 4}, {0, 4, 3, 5}}},
		{"a circle of length 0 with a longer edge into it", 4, edges(0, 1, 1, 1, 2, 0, 2, 3, 0, 3, 1, 0, 0, 3, 8), []int64{0, 8, 8, 8}, [][]int{{0}, {0, 3, 1}, {0, 3, 1, 2}, {0, 3}}},
		{"a circle that grows where no way leads", 5, edges(0, 1, 2, 2, 3, 1, 3, 2, 1, 3, 1, 9, 4, 4, 6000), []int64{0, 2, -1, -1, -1}, [][]int{{0}, {0, 1}, nil, nil, nil}},
		{"a circle but for one edge that goes the other way", 4, edges(0, 1, 2, 1, 2, 2, 2, 3, 2, 1, 3, 2), []int64{0, 2, 4, 6}, [][]int{{0}, {0, 1}, {0, 1, 2}, {0, 1, 2, 3}}},
	} {
		if far, e := Longest(r.n, r.l); e != api.OK || !slices.Equal(far, r.far) {
			t.Errorf("%s: Longest: %v, %v, not %v", r.name, far, e, r.far)
		}
		for to, want := range r.ways {
			way := Way(r.n, r.l, to)
			if !slices.Equal(way, want) || (way == nil) != (want == nil) {
				t.Errorf("%s: Way to %d: %v, not %v", r.name, to, way, want)
			}
		}
	}
}

// Promise 14.1: a circle above 0 that a way from 0 comes to, at 0, far from it, in one edge or in several, one of them alone longer than 0.
func TestCircles(t *testing.T) {
	for _, r := range []struct {
		n int
		l []api.Edge
	}{
		{1, edges(0, 0, 1)},
		{1, edges(0, 0, api.MaxTime)},
		{1, edges(0, 0, 0, 0, 0, 1)},
		{2, edges(0, 1, 0, 1, 1, 1)},
		{2, edges(0, 1, 0, 1, 0, 1)},
		{2, edges(0, 1, 1, 1, 0, 0)},
		{2, edges(1, 0, api.MaxTime, 0, 1, api.MaxTime)},
		{2, edges(0, 1, 0, 1, 0, 0, 0, 1, 1)},
		{4, edges(0, 1, 5, 1, 2, 0, 2, 3, 0, 3, 1, 1)},
		{4, edges(3, 1, 0, 2, 3, 1, 1, 2, 0, 0, 1, 0)},
		{5, edges(0, 1, 6000, 0, 2, 0, 2, 3, 0, 3, 2, 1)},
		{5, edges(0, 4, 0, 4, 4, 1, 0, 1, 1, 1, 2, 1)},
	} {
		wantError(t, r.n, r.l, api.ErrCircle)
	}
}

// row makes a row of edges by all of n points, each of a length, and an edge from the last point to another one.
func row(n, to int, each, last int64) []api.Edge {
	var l []api.Edge
	for p := 1; p < n; p++ {
		l = append(l, api.Edge{From: p - 1, To: p, Len: each})
	}
	return append(l, api.Edge{From: n - 1, To: to, Len: last})
}

// Promises 14.1 and 14.2: ways and circles by all points that a graph may have, their edges in a row and the other way round.
func TestLongRows(t *testing.T) {
	for n := 2; n <= api.MaxPoints; n++ {
		for _, back := range []bool{false, true} {
			turn := func(l []api.Edge) []api.Edge {
				if back {
					slices.Reverse(l)
				}
				return l
			}
			l := turn(row(n, n-1, api.MaxTime, 0))
			far, e := Longest(n, l)
			if e != api.OK || len(far) != n {
				t.Fatalf("a row of %d: %v, %v", n, far, e)
			}
			for p, length := range far {
				if length != int64(p)*api.MaxTime || !slices.Equal(Way(n, l, p), rising(p+1)) {
					t.Fatalf("a row of %d: %d is %d far, by %v", n, p, length, Way(n, l, p))
				}
			}
			zero := turn(row(n, 0, 0, 0))
			if far, e := Longest(n, zero); e != api.OK || !slices.Equal(far, make([]int64, n)) || !slices.Equal(Way(n, zero, n-1), rising(n)) {
				t.Fatalf("a circle of length 0 of %d: %v, %v", n, far, e)
			}
			wantError(t, n, turn(row(n, 0, 0, 1)), api.ErrCircle)
			wantError(t, n, turn(row(n, n-1, 0, 1)), api.ErrCircle)
			wantError(t, n, turn(row(n, (n-1)/2, 1, 0)), api.ErrCircle)
		}
	}
}

// Promise 14.1: how many points there may be.
func TestPoints(t *testing.T) {
	for _, n := range []int{math.MinInt, math.MinInt + 1, -1 << 32, -api.MaxPoints, -2, -1, 0, api.MaxPoints + 1, api.MaxPoints + 2, 1000, 1 << 32, 1<<32 + 1, math.MaxInt - 1, math.MaxInt} {
		wantError(t, n, nil, api.ErrArg)
		wantError(t, n, edges(0, 0, 0), api.ErrArg)
		wantError(t, n, edges(0, 1, 5, 1, 0, 5), api.ErrArg)
	}
	for _, n := range []int{1, 2, 32, 33, api.MaxPoints - 1, api.MaxPoints} {
		far, e := Longest(n, edges(0, n-1, 0))
		if e != api.OK || len(far) != n || far[n-1] != 0 {
			t.Errorf("Longest of %d points: %v, %v", n, far, e)
		}
		want := []int{0, n - 1}
		if n == 1 {
			want = want[:1]
		}
		if way := Way(n, edges(0, n-1, 0), n-1); !slices.Equal(way, want) {
			t.Errorf("Way of %d points: %v", n, way)
		}
	}
}

// Promise 14.1: how many edges there may be, the same or not.
func TestManyEdges(t *testing.T) {
	l := same(1000, api.Edge{From: 0, To: 1, Len: 7})
	l[999].Len = 8
	if far, e := Longest(2, l); e != api.OK || !slices.Equal(far, []int64{0, 8}) {
		t.Error("1000 edges:", far, e)
	}
	if way := Way(2, l, 1); !slices.Equal(way, []int{0, 1}) {
		t.Error("1000 edges:", way)
	}
	wantError(t, 2, append(l, l[0]), api.ErrArg)
	wantError(t, 2, same(1001, api.Edge{}), api.ErrArg)
	wantError(t, 1, same(1001, api.Edge{Len: 1}), api.ErrArg)
	wantError(t, 1, same(1000, api.Edge{Len: 1}), api.ErrCircle)
	wantError(t, 2, same(100000, api.Edge{To: 1}), api.ErrArg)
	circle := append(same(998, api.Edge{From: 0, To: 1}), edges(1, 2, 0, 2, 1, 1)...)
	wantError(t, 3, circle, api.ErrCircle)
	wantError(t, 3, append(circle, api.Edge{}), api.ErrArg)
}

// Promise 14.1: from where and to where an edge may go, and how long it may be; the places of an edge that may not be, and circles beside, do not matter.
func TestEdgeBounds(t *testing.T) {
	for _, n := range []int{1, 2, 5, api.MaxPoints} {
		for _, p := range []int{math.MinInt, -1 << 32, -api.MaxPoints, -2, -1, n, n + 1, 1000, 1 << 32, 1<<32 + n - 1, math.MaxInt} {
			wrong(t, n, api.Edge{From: p, To: 0})
			wrong(t, n, api.Edge{From: 0, To: p})
			wrong(t, n, api.Edge{From: p, To: p, Len: 1})
			wrong(t, n, api.Edge{From: n - 1, To: p})
		}
		for _, length := range []int64{math.MinInt64, -1 << 32, -api.MaxTime, -2, -1, api.MaxTime + 1, api.MaxTime + 2, 1 << 32, 1<<32 + 1, math.MaxInt64} {
			wrong(t, n, api.Edge{From: 0, To: n - 1, Len: length})
			wrong(t, n, api.Edge{From: n - 1, To: n - 1, Len: length})
			wrong(t, n, api.Edge{From: n - 1, To: 0, Len: length})
		}
	}
	for _, length := range []int64{0, 1, api.MaxTime - 1, api.MaxTime} {
		if far, e := Longest(3, []api.Edge{{From: 0, To: 2, Len: length}}); e != api.OK || !slices.Equal(far, []int64{0, -1, length}) {
			t.Errorf("an edge of length %d: %v, %v", length, far, e)
		}
		if way := Way(3, []api.Edge{{From: 0, To: 2, Len: length}}, 2); !slices.Equal(way, []int{0, 2}) {
			t.Errorf("an edge of length %d: %v", length, way)
		}
	}
}

// wrong holds that no graph has an edge, wherever it stands, though another one is a circle that grows.
func wrong(t *testing.T, n int, e api.Edge) {
	t.Helper()
	for _, other := range []api.Edge{{}, {Len: 1}} {
		for at := range 3 {
			l := same(3, other)
			l[at] = e
			wantError(t, n, l, api.ErrArg)
		}
	}
	wantError(t, n, []api.Edge{e}, api.ErrArg)
}

// Promise 14.2: Way to what is no point.
func TestNoPoint(t *testing.T) {
	for _, n := range []int{1, 2, 3, api.MaxPoints} {
		for _, to := range []int{math.MinInt, math.MinInt + 1, -1 << 32, -n, -2, -1, n, n + 1, api.MaxPoints, 1000, 1 << 32, 1<<32 + n - 1, math.MaxInt} {
			if to >= 0 && to < n {
				continue
			}
			if way := Way(n, row(n, n-1, 1, 0), to); way != nil {
				t.Errorf("Way to %d of %d points: %v", to, n, way)
			}
		}
	}
}

// Promise 14.2: where millions of ways are the longest ones, it is the one that always goes on to the lesser point.
func TestManyLongestWays(t *testing.T) {
	var l []api.Edge
	want := []int{0}
	n := 1
	for ; n+2 < api.MaxPoints; n += 3 {
		l = append(l, edges(n-1, n+1, 2, n-1, n, 1, n, n+2, 4, n+1, n+2, 3)...)
		want = append(want, n, n+2)
	}
	if far, e := Longest(n, l); e != api.OK || far[n-1] != int64(5*(n-1)/3) {
		t.Error(far, e)
	}
	if way := Way(n, l, n-1); !slices.Equal(way, want) {
		t.Error(way)
	}
}

// Promise 14.2: where each point leads to each other one by an edge of length 0, the way goes by all lesser points.
func TestAllZero(t *testing.T) {
	const n = 32
	var l []api.Edge
	for from := range n {
		for to := range n {
			if from != to {
				l = append(l, api.Edge{From: from, To: to})
			}
		}
	}
	for to := range n {
		if way := Way(n, l, to); !slices.Equal(way, rising(to+1)) {
			t.Errorf("Way to %d: %v", to, way)
		}
	}
}

// Promise 14.2: lesser points that lead back alone, to the point ahead of them or to where the way has been, are not gone by.
func TestDeadEnds(t *testing.T) {
	const half = api.MaxPoints / 2
	l := edges(0, half, 0)
	want := []int{0, half}
	for p := half + 1; p < api.MaxPoints; p++ {
		l = append(l, edges(p-1, p, 0, p, p-half, 0, p-half, p, 0, p-half, half, 0)...)
		want = append(want, p)
	}
	for p := half + 1; p < api.MaxPoints; p++ {
		along := want[:p-half+2]
		if way := Way(api.MaxPoints, l, p); !slices.Equal(way, along) {
			t.Errorf("Way to %d: %v, not %v", p, way, along)
		}
		if way := Way(api.MaxPoints, l, p-half); !slices.Equal(way, append(slices.Clone(along), p-half)) {
			t.Errorf("Way to %d: %v", p-half, way)
		}
	}
}

// guarded lays edges ahead of other ones in one memory, and says whether all of it is still the same.
func guarded(l []api.Edge) ([]api.Edge, func() bool) {
	memory := append(slices.Clone(l), edges(7, -3, 5, 1, 2, 3)...)
	kept := slices.Clone(memory)
	return memory[:len(l)], func() bool { return slices.Equal(memory, kept) }
}

// R4: what is handed in is not changed, nor what lies behind its end.
func TestNotChanged(t *testing.T) {
	for _, r := range []struct {
		n int
		l []api.Edge
	}{
		{3, nil},
		{3, edges(2, 1, 0, 0, 1, 3, 1, 2, 4, 0, 2, 5)},
		{3, edges(1, 2, 4, 0, 2, 5, 0, 1, 3, 0, 0, 0, 0, 1, 3)},
		{3, edges(0, 1, 3, 1, 2, -1)},
		{2, edges(0, 1, 3, 1, 2, 4)},
		{0, edges(0, 1, 3)},
		{api.MaxPoints, row(api.MaxPoints, 0, 0, 0)},
		{2, same(1000, api.Edge{To: 1})},
		{2, same(1001, api.Edge{To: 1})},
	} {
		l, kept := guarded(r.l)
		Longest(r.n, l)
		for to := -1; to <= r.n; to++ {
			Way(r.n, l, to)
		}
		if !kept() {
			t.Errorf("%d points and %v: it was changed", r.n, r.l)
		}
	}
}

// R4 and R5: what is handed out is new memory, and a call answers the same again, whatever was called ahead.
func TestNewMemory(t *testing.T) {
	l := edges(0, 1, 3, 1, 2, 4, 0, 2, 5)
	for range 3 {
		far, e := Longest(3, l)
		if e != api.OK || !slices.Equal(far, []int64{0, 3, 7}) {
			t.Fatal(far, e)
		}
		way, first := Way(3, l, 2), Way(3, l, 0)
		if !slices.Equal(way, []int{0, 1, 2}) || !slices.Equal(first, []int{0}) {
			t.Fatal(way, first)
		}
		far, way, first = far[:cap(far)], way[:cap(way)], first[:cap(first)]
		for i := range far {
			far[i] = -9
		}
		for i := range way {
			way[i] = -9
		}
		for i := range first {
			first[i] = -9
		}
		wantError(t, 1, edges(0, 0, 1), api.ErrCircle)
		wantError(t, 3, append(slices.Clone(l), edges(0, 3, 0)...), api.ErrArg)
	}
}
