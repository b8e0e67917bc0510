package crit

import (
	"math/big"
	"math/rand"
	"slices"
	"testing"

	"carrefour/api"
)

// number tells by math/big alone what a fraction counts as.
func number(f api.Frac) *big.Rat {
	n, d := big.NewInt(f.Num), big.NewInt(f.Den)
	if d.Sign() < 1 || new(big.Int).GCD(nil, nil, new(big.Int).Abs(n), d).Cmp(big.NewInt(1)) != 0 {
		return new(big.Rat)
	}
	return new(big.Rat).SetFrac(n, d)
}

// added tells a sum of numbers, and whether each step of it fits.
func added(l []*big.Rat) (*big.Rat, bool) {
	sum, fits := new(big.Rat), true
	for _, n := range l {
		sum.Add(sum, n)
		fits = fits && sum.Num().IsInt64() && sum.Denom().IsInt64()
	}
	return sum, fits
}

// placesByName tells the places of a ring's phases, without layer 7.
func placesByName(x api.Node, r api.Row) []int {
	places := map[string]int{}
	for i := len(x.Phases) - 1; i >= 0; i-- {
		places[x.Phases[i].Name] = i
	}
	var l []int
	for _, name := range r.Phases {
		if i, ok := places[name]; ok {
			l = append(l, i)
		}
	}
	return l
}

// way is a ring of each group, with the sum of all their phases, added in one row.
type way struct {
	rings  []int
	places []int
	sum    *big.Rat
}

// ways tells all of them: those whose first rings stand ahead come first.
func ways(x api.Node, ratios []api.Frac) []way {
	l := []way{{sum: new(big.Rat)}}
	for _, g := range x.Groups {
		var longer []way
		for _, w := range l {
			for i, r := range g.Rings {
				next := way{append(slices.Clone(w.rings), i), slices.Concat(w.places, placesByName(x, r)), new(big.Rat).Set(w.sum)}
				for _, at := range placesByName(x, r) {
					next.sum.Add(next.sum, number(ratios[at]))
				}
				longer = append(longer, next)
			}
		}
		l = longer
	}
	return l
}

// ringOf tells the sum of a ring, and whether it fits.
func ringOf(x api.Node, r api.Row, ratios []api.Frac) (*big.Rat, bool) {
	var l []*big.Rat
	for _, at := range placesByName(x, r) {
		l = append(l, number(ratios[at]))
	}
	return added(l)
}

// errorOf tells which error there is, of a node whose way is known.
func errorOf(x api.Node, ratios []api.Frac, rings []int) api.Errno {
	var sums []*big.Rat
	for k, g := range x.Groups {
		for i, r := range g.Rings {
			sum, fits := ringOf(x, r, ratios)
			if !fits {
				return api.ErrOver
			}
			if i == rings[k] {
				sums = append(sums, sum)
			}
		}
	}
	if _, fits := added(sums); !fits {
		return api.ErrOver
	}
	return api.OK
}

// told tells the first of the greatest ways, by trying all of them, or the error.
func told(x api.Node, ratios []api.Frac) (way, api.Errno) {
	if len(ratios) != len(x.Phases) {
		return way{}, api.ErrArg
	}
	all := ways(x, ratios)
	if len(all) == 0 {
		return way{}, api.ErrArg
	}
	best := all[0]
	for _, w := range all {
		if w.sum.Cmp(best.sum) > 0 {
			best = w
		}
	}
	if e := errorOf(x, ratios, best.rings); e != api.OK {
		return way{}, e
	}
	return best, api.OK
}

// holdWays asks both calls and holds them against all ways there are.
func holdWays(t *testing.T, x api.Node, ratios []api.Frac) api.Errno {
	t.Helper()
	want, err := told(x, ratios)
	sum := api.Frac{}
	if err == api.OK {
		sum = api.Frac{Num: want.sum.Num().Int64(), Den: want.sum.Denom().Int64()}
	}
	if got, e := Sum(x, ratios); e != err || got.Sum != sum || !slices.Equal(got.Rings, want.rings) {
		t.Fatalf("%v %v: %v, %d; want %v %v, %d", x, ratios, got, e, sum, want.rings, err)
	}
	if got := Rank(x, ratios); !slices.Equal(got, want.places) {
		t.Fatalf("%v %v: places %v; want %v", x, ratios, got, want.places)
	}
	return err
}

// someRatio tells one by chance: many are alike, some are below 0, not right, or at the edges.
func someRatio(r *rand.Rand, great int) api.Frac {
	if r.Intn(40) < great {
		edges := []int64{lowest, lowest + 1, 1 - 1<<62, highest, highest - 1, 1 << 62, 1<<62 - 1, 1 << 31, 1}
		return fr(edges[r.Intn(len(edges))], edges[3+r.Intn(6)])
	}
	if r.Intn(4) == 0 {
		return fr(r.Int63n(9)-4, r.Int63n(7)-1)
	}
	return []api.Frac{fr(0, 1), fr(1, 2), fr(1, 3), fr(1, 6), fr(1, 4), fr(3, 4), fr(2, 5)}[r.Intn(7)]
}

// someNode is a node by chance: its rings name what is there and what is not, once and twice.
func someNode(r *rand.Rand) api.Node {
	letters := []string{"a", "b", "c", "d", "e", "f", ""}
	var x api.Node
	for range r.Intn(8) {
		x.Phases = append(x.Phases, api.Phase{Name: letters[r.Intn(len(letters))]})
	}
	for range r.Intn(5) {
		var g api.Group
		for range 1 + r.Intn(3) {
			ring := api.Row{Free: r.Intn(2) == 0}
			for range r.Intn(4) {
				ring.Phases = append(ring.Phases, letters[r.Intn(len(letters))])
			}
			g.Rings = append(g.Rings, ring)
		}
		if r.Intn(60) == 0 {
			g.Rings = nil
		}
		x.Groups = append(x.Groups, g)
	}
	return x
}

// Promises 11.1 to 11.3: nodes by chance, right ones and others, with ratios that fit and others.
func TestByChance(t *testing.T) {
	r := rand.New(rand.NewSource(111))
	met := map[api.Errno]int{}
	for range 20000 {
		x := someNode(r)
		many := len(x.Phases)
		if r.Intn(20) == 0 {
			many = max(0, many+r.Intn(3)-1)
		}
		great := r.Intn(24)
		var ratios []api.Frac
		for range many {
			ratios = append(ratios, someRatio(r, great))
		}
		met[holdWays(t, x, ratios)]++
	}
	if len(met) != 3 || met[api.OK] < 5000 || met[api.ErrOver] < 1000 || met[api.ErrArg] < 500 {
		t.Errorf("too few: %d", met)
	}
}

// someRight is a node as a network may have: up to 4 groups of 1 or 2 rings of 1 to 4 phases, each phase in one ring.
func someRight(r *rand.Rand) api.Node {
	var x api.Node
	for range 1 + r.Intn(api.MaxGroups) {
		var g api.Group
		for range 1 + r.Intn(api.MaxRings) {
			var ring api.Row
			for range 1 + r.Intn(api.MaxRow) {
				name := string(rune('a' + len(x.Phases)))
				x.Phases = append(x.Phases, api.Phase{Name: name})
				ring.Phases = append(ring.Phases, name)
			}
			g.Rings = append(g.Rings, ring)
		}
		x.Groups = append(x.Groups, g)
	}
	r.Shuffle(len(x.Phases), func(i, j int) { x.Phases[i], x.Phases[j] = x.Phases[j], x.Phases[i] })
	return x
}

// Promise 11.3: no way has a greater sum; the sum is that of the ratios on the way that is told.
func TestNoGreaterWay(t *testing.T) {
	r := rand.New(rand.NewSource(113))
	less, tried := 0, 0
	for range 5000 {
		x := someRight(r)
		ratios := make([]api.Frac, len(x.Phases))
		for i := range ratios {
			ratios[i] = []api.Frac{fr(0, 1), fr(1, 20), fr(1, 12), fr(1, 8), fr(3, 10), fr(r.Int63n(20), 23)}[r.Intn(6)]
		}
		got, e := Sum(x, ratios)
		if e != api.OK {
			t.Fatal(x, ratios, e)
		}
		for _, w := range ways(x, ratios) {
			tried++
			switch w.sum.Cmp(number(got.Sum)) {
			case 1:
				t.Fatalf("%v %v: %v, but the way %v has %v", x, ratios, got, w.rings, w.sum)
			case -1:
				less++
			}
		}
		sum := new(big.Rat)
		for _, at := range Rank(x, ratios) {
			sum.Add(sum, number(ratios[at]))
		}
		if sum.Cmp(number(got.Sum)) != 0 {
			t.Fatalf("%v %v: %v, but the places come to %v", x, ratios, got, sum)
		}
		holdWays(t, x, ratios)
	}
	if less < 5000 || tried < 10000 {
		t.Error("too few:", less, tried)
	}
}
