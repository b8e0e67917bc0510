package webster

import (
	"math/rand"
	"testing"

	"carrefour/api"
)

func from(least, most, step int64) api.Net { return api.Net{Min: least, Max: most, Step: step} }

// cycles tells those that the chapter allows, by counting on step by step.
func cycles(n api.Net) []int64 {
	var l []int64
	if n.Min < 1 || n.Min > n.Max || n.Max > 6000 || n.Step < 1 {
		return nil
	}
	for c := n.Min; c <= n.Max; c += n.Step {
		l = append(l, c)
		if n.Step > n.Max {
			break
		}
	}
	return l
}

// holds asks both calls and holds them against all cycles there are.
func holds(t *testing.T, n api.Net, wanted ...int64) {
	t.Helper()
	l := cycles(n)
	if got := Count(n); got != int64(len(l)) {
		t.Fatalf("%d to %d by %d: %d cycles, want %d", n.Min, n.Max, n.Step, got, len(l))
	}
	for _, c := range wanted {
		want, ok := int64(0), false
		for _, one := range l {
			if !ok {
				want, ok = one, one >= c
			}
		}
		if got, is := Allowed(n, c); got != want || is != ok {
			t.Fatalf("%d to %d by %d, %d: %d, %v; want %d, %v", n.Min, n.Max, n.Step, c, got, is, want, ok)
		}
	}
}

// Promise 12.3: the chapter's example and others that are counted by hand.
func TestAllowed(t *testing.T) {
	for _, r := range []struct {
		n    api.Net
		c    int64
		want int64
		ok   bool
		many int64
	}{
		{from(300, 900, 70), 600, 650, true, 9},
		{from(300, 900, 70), 870, 860, false, 9},
		{from(300, 900, 70), 860, 860, true, 9},
		{from(300, 900, 70), 861, 860, false, 9},
		{from(300, 900, 70), 859, 860, true, 9},
		{from(300, 900, 70), 650, 650, true, 9},
		{from(300, 900, 70), 651, 720, true, 9},
		{from(300, 900, 70), 300, 300, true, 9},
		{from(300, 900, 70), 301, 370, true, 9},
		{from(300, 900, 70), 299, 300, true, 9},
		{from(300, 900, 70), 0, 300, true, 9},
		{from(300, 900, 70), -5, 300, true, 9},
		{from(300, 900, 70), 900, 860, false, 9},
		{from(300, 900, 70), lowest, 300, true, 9},
		{from(300, 900, 70), highest, 860, false, 9},
		{from(10, 10, 5), 3, 10, true, 1},
		{from(10, 10, 5), 10, 10, true, 1},
		{from(10, 10, 5), 11, 10, false, 1},
		{from(40, 80, 20), 51, 60, true, 3}, // Max is two steps above Min: it is a cycle
		{from(40, 80, 20), 61, 80, true, 3},
		{from(40, 80, 20), 80, 80, true, 3},
		{from(40, 80, 20), 81, 80, false, 3},
		{from(40, 79, 20), 61, 60, false, 2}, // and here it is not
		{from(40, 50, 20), 41, 40, false, 1},
		{from(40, 50, 11), 41, 40, false, 1},
		{from(40, 50, 10), 41, 50, true, 2},
		{from(1, 6000, 1), 4321, 4321, true, 6000},
		{from(1, 6000, 1), 6001, 6000, false, 6000},
		{from(6000, 6000, 1), 6000, 6000, true, 1},
		{from(1, 6000, 5999), 2, 6000, true, 2},
		{from(1, 6000, 6000), 2, 1, false, 1},
		{from(1, 6000, highest), 2, 1, false, 1},
		{from(6000, 6000, highest), lowest, 6000, true, 1},
	} {
		if got, ok := Allowed(r.n, r.c); got != r.want || ok != r.ok {
			t.Errorf("%d to %d by %d, %d: %d, %v; want %d, %v", r.n.Min, r.n.Max, r.n.Step, r.c, got, ok, r.want, r.ok)
		}
		if got := Count(r.n); got != r.many {
			t.Errorf("%d to %d by %d: %d cycles, want %d", r.n.Min, r.n.Max, r.n.Step, got, r.many)
		}
	}
}

// Promise 12.3: beyond each bound there is no cycle, whatever is wanted.
func TestNoCycles(t *testing.T) {
	for _, n := range []api.Net{
		{}, from(0, 10, 1), from(0, 0, 1), from(0, 6000, 1), from(-1, 10, 1), from(-10, -5, 1), from(lowest, highest, 1), from(lowest, 5, 1), from(lowest, lowest, 1),
		from(11, 10, 1), from(6000, 5999, 1), from(5, -5, 1), from(highest, 1, 1), from(1, lowest, 1), from(1, 0, 1), from(highest, lowest, 1),
		from(1, 6001, 1), from(6001, 6001, 1), from(6001, 6000, 1), from(1, highest, 1), from(highest, highest, 1), from(1, 1<<32+5, 1), from(1<<32+1, 1<<32+5, 1),
		from(1, 10, 0), from(1, 10, -1), from(1, 10, lowest), from(6000, 6000, 0), from(5, 5, 0), from(5, 5, -5), from(1, 10, -highest), from(1, 10, -1<<32),
		from(0, 6001, 0), from(0, 0, 0),
	} {
		for _, c := range []int64{lowest, -1, 0, 1, 5, 10, 5999, 6000, 6001, highest} {
			if got, ok := Allowed(n, c); got != 0 || ok {
				t.Errorf("%d to %d by %d, %d: %d, %v; want 0, false", n.Min, n.Max, n.Step, c, got, ok)
			}
		}
		if got := Count(n); got != 0 {
			t.Errorf("%d to %d by %d: %d cycles, want none", n.Min, n.Max, n.Step, got)
		}
	}
}

// Promise 12.3: all small numbers, right ones and others.
func TestAllowedBySmallNumbers(t *testing.T) {
	wanted := []int64{lowest, lowest + 1, -6000, highest - 1, highest}
	for c := int64(-3); c < 16; c++ {
		wanted = append(wanted, c)
	}
	for least := int64(-2); least < 13; least++ {
		for most := int64(-2); most < 13; most++ {
			for step := int64(-2); step < 15; step++ {
				holds(t, from(least, most, step), wanted...)
			}
		}
	}
}

// Promise 12.3: each edge with each other, at and beyond the bounds and at the ends of the type.
func TestAllowedAtEdges(t *testing.T) {
	ends := []int64{lowest, lowest + 1, -6000, -1, 0, 1, 2, 3, 2999, 3000, 3001, 5998, 5999, 6000, 6001, 6002, 1 << 32, 1<<32 + 1, highest - 6000, highest - 1, highest}
	for _, least := range ends {
		for _, most := range ends {
			for _, step := range ends {
				holds(t, from(least, most, step), ends...)
			}
		}
	}
}

// Promise 12.3: networks by chance; around each cycle and Max all numbers are held.
func TestAllowedByChance(t *testing.T) {
	r := rand.New(rand.NewSource(123))
	for range 3000 {
		least := 1 + r.Int63n(6000)
		n := from(least, least+r.Int63n(6001-least), 1+r.Int63n(700))
		if r.Intn(2) == 0 { // Max is a cycle
			n.Max = n.Min + (n.Max-n.Min)/n.Step*n.Step
		}
		wanted := []int64{lowest, 0, n.Min - 1, n.Max - 1, n.Max, n.Max + 1, highest}
		for range 5 {
			near := n.Min + n.Step*r.Int63n((n.Max-n.Min)/n.Step+2)
			wanted = append(wanted, near-1, near, near+1)
		}
		holds(t, n, wanted...)
	}
}

// R5: nothing else of a network counts; R4: it is not changed.
func TestAllowedAsksForCyclesAlone(t *testing.T) {
	n := from(300, 900, 70)
	n.Peak, n.WOut, n.WIn = fr(0, 0), -1, highest
	n.Nodes = make([]api.Node, 50)
	n.Stops = []api.Stop{{Node: "x", Ahead: -1}}
	holds(t, n, 299, 300, 301, 600, 860, 861)
	if n.Min != 300 || n.Max != 900 || n.Step != 70 || len(n.Nodes) != 50 || len(n.Stops) != 1 {
		t.Error(n)
	}
}
