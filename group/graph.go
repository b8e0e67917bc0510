package group

import (
	"carrefour/api"
	"carrefour/order"
)

// Points of a graph that all rings share; behind them stand those between two phases of a ring.
const (
	begin = iota
	end
	between
)

// graph tells the ways through a group whose rows are in order.
type graph struct {
	points int
	orders [][]int
	places [][]int    // of each row, by phases, where they stand in its order
	marks  [][]int    // of each row, by places, the point where the phase begins, and at last the one where the last phase ends
	phases []api.Edge // the edges along the phases
}

func newGraph(rows [][]int64, orders [][]int) *graph {
	g := &graph{points: between, orders: orders}
	for r, times := range rows {
		marks := []int{begin}
		for range len(times) - 1 {
			marks = append(marks, g.points)
			g.points++
		}
		marks = append(marks, end)
		for place, phase := range orders[r] {
			g.phases = append(g.phases, api.Edge{From: marks[place], To: marks[place+1], Len: times[phase]})
		}
		g.marks = append(g.marks, marks)
		g.places = append(g.places, order.Turned(orders[r]))
	}
	return g
}

// edges tells the edges of the phases and of the Pairs that are settled.
func (g *graph) edges(apart []api.Pair, p part) []api.Edge {
	l := append(make([]api.Edge, 0, len(g.phases)+p.settled), g.phases...)
	for i, pair := range apart[:p.settled] {
		a, b := g.places[0][pair.A], g.places[1][pair.B]
		if p.second>>i&1 == 1 {
			l = append(l, api.Edge{From: g.marks[1][b+1], To: g.marks[0][a]})
		} else {
			l = append(l, api.Edge{From: g.marks[0][a+1], To: g.marks[1][b]})
		}
	}
	return l
}

// fit tells the layout whose points are so far from the begin.
func (g *graph) fit(far []int64) api.Fit {
	f := api.Fit{Least: far[end], Orders: g.orders}
	for r, phases := range g.orders {
		starts := make([]int64, len(phases))
		for place := range phases {
			starts[place] = far[g.marks[r][place]]
		}
		f.Starts = append(f.Starts, starts)
	}
	return f
}
