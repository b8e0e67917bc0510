package split

import (
	"errors"
	"math"
	"slices"
	"sort"

	"carrefour/api"
	"carrefour/frac"
	"carrefour/group"
	"carrefour/need"
)

// search is for the best greens of a node. Greens are told as needs that have them.
type search struct {
	node          api.Node
	needs         []api.Need
	cycle         int64
	steps, budget int64
	served        []int      // the places of the phases that stand in a ring and have a Ratio above 0
	greens        []api.Need // the best ones that are found so far
	fits          []api.Fit  // their layouts
}

// run finds the best greens.
func (s *search) run(budget int64) error {
	if err := refused(s.node, s.needs, s.cycle); err != nil {
		return err
	}
	// With as many steps as it takes: that the Needs' Greens do not fit is told ahead of a budget that is spent.
	s.budget = math.MaxInt64
	if err := s.try(s.needs); err != nil {
		return err
	}
	s.budget = budget
	if s.steps > budget {
		return refusal{api.ErrBudget, "the needs' greens"}
	}
	s.served = servedOf(s.node, s.needs)
	if len(s.served) == 0 {
		return nil
	}
	return s.lower()
}

// lower lowers the worst as far as greens fit.
func (s *search) lower() error {
	var ratios []api.Frac
	for _, place := range s.served {
		ratios = append(ratios, s.needs[place].Ratio)
	}
	// By the greatest Ratio, over a green of 1, all greens are the Needs' own.
	greatest := frac.Max(ratios...)
	if err := s.furthest(int(s.cycle), func(k int) api.Frac { return by(greatest, int64(k)+1) }); err != nil {
		return err
	}
	// Between the greatest Ratio by a green and by the next one lies no more than one quotient of each other Ratio: so the least worst is a Ratio by its green of those that are found.
	worsts := s.worsts()
	slices.SortFunc(worsts, func(a, b api.Frac) int { return frac.Cmp(b, a) })
	return s.furthest(len(worsts), func(k int) api.Frac { return worsts[k] })
}

// furthest looks for the last of so many worsts, none greater than the one ahead, whose greens fit; those of the first one are known to. Where those of one worst don't, those of a lesser one don't (15.3), so the worsts are halved.
func (s *search) furthest(many int, worst func(int) api.Frac) error {
	for fits, over := 0, many; over-fits > 1; {
		middle := (fits + over) / 2
		err := s.try(s.greensFor(worst(middle)))
		switch {
		case err == nil:
			fits = middle
		case errors.Is(err, api.ErrFit):
			over = middle
		default:
			return err
		}
	}
	return nil
}

// greensFor tells the least greens by which no Ratio is above a worst. (It does not look further than one above the cycle, which does not fit.)
func (s *search) greensFor(worst api.Frac) []api.Need {
	greens := slices.Clone(s.needs)
	for _, place := range s.served {
		n := &greens[place]
		least := n.Green
		n.Green += int64(sort.Search(int(s.cycle-least+1), func(more int) bool {
			return frac.Cmp(by(n.Ratio, least+int64(more)), worst) <= 0
		}))
	}
	return greens
}

// try lays all groups out. Greens that fit are the best ones so far.
func (s *search) try(greens []api.Need) error {
	jobs := need.Jobs(s.node, need.Least(greens))
	var long int64
	for _, j := range jobs {
		long += longest(j)
	}
	// Ahead of all steps, as no group lasts less than its rings (15.3): so no time is above MaxTime, either, when a group is laid out.
	if long > s.cycle {
		return refusal{api.ErrFit, "the rings"}
	}
	fits := make([]api.Fit, 0, len(jobs))
	for _, j := range jobs {
		f, err := s.lay(j)
		if err != nil {
			return err
		}
		fits = append(fits, f)
		long += f.Least - longest(j)
		if long > s.cycle {
			return refusal{api.ErrFit, "the groups"}
		}
	}
	s.greens, s.fits = greens, fits
	return nil
}

// lay lays a group out, with steps that are left of the budget.
func (s *search) lay(j api.Job) (api.Fit, error) {
	f, steps, e := group.Lay(j, s.budget-s.steps)
	s.steps += steps
	if e != api.OK {
		return api.Fit{}, refusal{e, "a group"}
	}
	return f, nil
}

// worsts tells the Ratios of the served phases by their greens.
func (s *search) worsts() []api.Frac {
	l := make([]api.Frac, 0, len(s.served))
	for _, place := range s.served {
		l = append(l, by(s.needs[place].Ratio, s.greens[place].Green))
	}
	return l
}

// share tells what is found, with the rest of the cycle in the last group.
func (s *search) share() api.Share {
	rest := s.cycle
	for _, f := range s.fits {
		rest -= f.Least
	}
	if last := len(s.fits) - 1; last >= 0 {
		s.fits[last].Least += rest
	}
	worsts := s.worsts()
	if len(worsts) == 0 {
		// Nothing holds the green of a phase that stands in no ring: where no other one is served, it counts as the whole cycle.
		for _, n := range s.needs {
			worsts = append(worsts, by(n.Ratio, s.cycle))
		}
	}
	return api.Share{Fits: s.fits, Worst: frac.Max(worsts...)}
}

// servedOf tells the places of the phases that stand in a ring and have a Ratio above 0. Layer 10 tells which phase a ring's name is of: it puts what is told of it there.
func servedOf(x api.Node, l []api.Need) []int {
	marks := make([]int64, len(l))
	for place, n := range l {
		if n.Ratio.Num > 0 {
			marks[place] = int64(place) + 1
		}
	}
	var served []int
	for _, j := range need.Jobs(x, marks) {
		for _, mark := range slices.Concat(j.Rows...) {
			if mark > 0 {
				served = append(served, int(mark)-1)
			}
		}
	}
	slices.Sort(served)
	return slices.Compact(served)
}

// longest tells the time of a group's longest ring.
func longest(j api.Job) int64 {
	var most int64
	for _, row := range j.Rows {
		var all int64
		for _, t := range row {
			all += t
		}
		most = max(most, all)
	}
	return most
}

// by tells a Ratio by a green of up to the cycle; it fits (ErrOver is told ahead).
func by(ratio api.Frac, green int64) api.Frac {
	f, _ := frac.Div(ratio, api.Frac{Num: green, Den: 1})
	return f
}
