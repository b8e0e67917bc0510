package group

import (
	"math"
	"slices"

	"carrefour/api"
	"carrefour/paths"
)

// search is for the first layout of those with the least time.
type search struct {
	job           api.Job
	apart         []api.Pair
	floor         int64
	steps, budget int64
	best          api.Fit
}

// part is a part of a layout: so many Pairs, from the first one on, are settled; a bit each, those of which the phase of the second row is first.
type part struct {
	settled int
	second  uint
}

func newSearch(j api.Job, budget int64) *search {
	apart := distinct(j.Apart)
	return &search{job: j, apart: apart, floor: floorOf(j.Rows, apart), budget: budget, best: api.Fit{Least: math.MaxInt64}}
}

// run goes through the layouts in the order by which of several the first one is told: a later one must be shorter.
func (s *search) run() api.Errno {
	seconds := ordersOf(s.job, 1)
orders:
	for _, first := range ordersOf(s.job, 0) {
		for _, second := range seconds {
			g := newGraph(s.job.Rows, [][]int{first, second}[:len(s.job.Rows)])
			for left := []part{{}}; len(left) > 0; {
				if s.steps == s.budget {
					return api.ErrBudget
				}
				s.steps++
				p := left[len(left)-1]
				left = left[:len(left)-1]
				// Pairs that are yet to be settled make the ways no shorter.
				far, e := paths.Longest(g.points, g.edges(s.apart, p))
				if e != api.OK || far[end] >= s.best.Least {
					continue
				}
				if p.settled < len(s.apart) {
					left = append(left, p.and(1), p.and(0))
					continue
				}
				s.best = g.fit(far)
				if s.best.Least == s.floor {
					break orders
				}
			}
		}
	}
	if len(s.best.Orders) == 0 {
		return api.ErrFit
	}
	return api.OK
}

// and settles one more Pair: 0, the phase of the first row is first, 1, that of the second.
func (p part) and(second uint) part {
	return part{p.settled + 1, p.second | second<<p.settled}
}

// distinct tells each Pair once: a layout that settles the same Pair both ways has more to keep than the one with the first row's phase first each time, and stands behind it.
func distinct(apart []api.Pair) []api.Pair {
	var l []api.Pair
	for _, p := range apart {
		if !slices.Contains(l, p) {
			l = append(l, p)
		}
	}
	return l
}

// floorOf tells a time that no layout is shorter than: the phases of a ring are one behind the other, and so are a phase and all those of the other ring that it is apart from.
func floorOf(rows [][]int64, apart []api.Pair) int64 {
	var floor int64
	for _, row := range rows {
		floor = max(floor, sum(row))
	}
	for _, p := range apart {
		a, b := rows[0][p.A], rows[1][p.B]
		for _, q := range apart {
			if q.A == p.A {
				a += rows[1][q.B]
			}
			if q.B == p.B {
				b += rows[0][q.A]
			}
		}
		floor = max(floor, a, b)
	}
	return floor
}

func sum(times []int64) int64 {
	var all int64
	for _, t := range times {
		all += t
	}
	return all
}
