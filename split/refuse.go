package split

import (
	"errors"
	"math"
	"slices"

	"carrefour/api"
	"carrefour/frac"
	"carrefour/group"
	"carrefour/need"
)

// refusal is an error's number, and what is refused.
type refusal struct {
	number api.Errno
	what   string
}

func (r refusal) Error() string { return r.what + ": " + r.number.Error() }

func (r refusal) Unwrap() error { return r.number }

// numberOf tells the number that an error wraps; OK, if nothing is wrong.
func numberOf(err error) api.Errno {
	for _, e := range []api.Errno{api.ErrArg, api.ErrOver, api.ErrFit, api.ErrBudget} {
		if errors.Is(err, e) {
			return e
		}
	}
	return api.OK
}

// refused tells what is wrong with what is handed in.
func refused(x api.Node, l []api.Need, c int64) error {
	switch {
	case len(l) != len(x.Phases):
		return refusal{api.ErrArg, "other many needs than phases"}
	case c < 1 || c > api.MaxTime:
		return refusal{api.ErrArg, "the cycle"}
	case slices.ContainsFunc(l, mayNotBe):
		return refusal{api.ErrArg, "a need"}
	// Behind the needs, whose numbers could be too great to be added.
	case slices.ContainsFunc(need.Jobs(x, need.Least(l)), mayNotBeLaid):
		return refusal{api.ErrArg, "a group"}
	case slices.ContainsFunc(l, func(n api.Need) bool { return isOver(n.Ratio, c) }):
		return refusal{api.ErrOver, "a ratio"}
	}
	return nil
}

func mayNotBe(n api.Need) bool {
	return n.Green < 1 || isNoTime(n.Green) || isNoTime(n.Yellow) || isNoTime(n.Red) || n.Ratio.Num < 0 || !frac.Right(n.Ratio)
}

func isNoTime(t int64) bool { return t < 0 || t > api.MaxTime }

func mayNotBeLaid(j api.Job) bool { return !group.Right(j) }

func isOver(ratio api.Frac, c int64) bool {
	return ratio.Num > 0 && ratio.Den > math.MaxInt64/c
}
