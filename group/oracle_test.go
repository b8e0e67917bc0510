package group

import (
	"math"
	"math/rand"
	"reflect"
	"slices"
	"testing"

	"carrefour/api"
)

// permutations tells the orders of n numbers, those that are lesser where they are unlike first ahead.
func permutations(n int) [][]int {
	if n == 0 {
		return [][]int{{}}
	}
	var all [][]int
	for first := range n {
		for _, rest := range permutations(n - 1) {
			p := []int{first}
			for _, x := range rest {
				if x >= first {
					x++
				}
				p = append(p, x)
			}
			all = append(all, p)
		}
	}
	return all
}

// eachLayout goes through all layouts of a job, in the order by which of several the first one is told; a choice is true where the phase of the second row is first.
func eachLayout(j api.Job, meet func(orders [][]int, choices []bool)) {
	of := func(r int) [][]int {
		if r >= len(j.Rows) {
			return [][]int{nil}
		}
		all := permutations(len(j.Rows[r]))
		if !j.Free[r] {
			all = all[:1]
		}
		return all
	}
	for _, first := range of(0) {
		for _, second := range of(1) {
			choices := make([]bool, len(j.Apart))
			for bits := range 1 << len(choices) {
				for k := range choices {
					choices[k] = bits>>(len(choices)-1-k)&1 == 1
				}
				meet([][]int{first, second}[:len(j.Rows)], choices)
			}
		}
	}
}

// timesOf tells when the phases of a layout begin, by phases, and the whole time: all are raised till nothing that is asked for raises them further; false, if one begins at 0 no more, or more comes of it than all times together.
func timesOf(j api.Job, orders [][]int, choices []bool) ([][]int64, int64, bool) {
	var whole, most int64
	begins := make([][]int64, len(orders))
	next := make([][]int, len(orders))
	for r, p := range orders {
		begins[r] = make([]int64, len(p))
		next[r] = slices.Repeat([]int{-1}, len(p))
		for k, phase := range p {
			most += j.Rows[r][phase]
			if k+1 < len(p) {
				next[r][phase] = p[k+1]
			}
		}
	}
	raised := false
	raise := func(n *int64, to int64) {
		if *n < to {
			*n, raised = to, true
		}
	}
	endOf := func(r, phase int) *int64 {
		if k := next[r][phase]; k >= 0 {
			return &begins[r][k]
		}
		return &whole
	}
	for again := true; again; again = raised {
		raised = false
		for r, p := range orders {
			for _, phase := range p {
				raise(endOf(r, phase), begins[r][phase]+j.Rows[r][phase])
			}
		}
		for k, pair := range j.Apart {
			if choices[k] {
				raise(&begins[0][pair.A], *endOf(1, pair.B))
			} else {
				raise(&begins[1][pair.B], *endOf(0, pair.A))
			}
		}
		for r, p := range orders {
			if begins[r][p[0]] > 0 || whole > most {
				return nil, 0, false
			}
		}
	}
	return begins, whole, true
}

// told is what all layouts of a job tell, gone through one by one.
type told struct {
	fit     api.Fit
	ok      bool
	layouts int64 // how many there are
	firsts  int   // how many of them have the least time
}

func goThrough(j api.Job) told {
	x := told{fit: api.Fit{Least: math.MaxInt64}}
	eachLayout(j, func(orders [][]int, choices []bool) {
		x.layouts++
		begins, whole, ok := timesOf(j, orders, choices)
		if !ok || whole > x.fit.Least {
			return
		}
		if whole == x.fit.Least {
			x.firsts++
			return
		}
		x.ok, x.firsts = true, 1
		x.fit = api.Fit{Least: whole}
		for r, p := range orders {
			var starts []int64
			for _, phase := range p {
				starts = append(starts, begins[r][phase])
			}
			x.fit.Orders = append(x.fit.Orders, slices.Clone(p))
			x.fit.Starts = append(x.fit.Starts, starts)
		}
	})
	if !x.ok {
		x.fit = api.Fit{}
	}
	return x
}

// sameFit holds two layouts against one another.
func sameFit(a, b api.Fit) bool {
	return a.Least == b.Least && slices.EqualFunc(a.Orders, b.Orders, slices.Equal[[]int]) && slices.EqualFunc(a.Starts, b.Starts, slices.Equal[[]int64])
}

// hold holds Right, Most and Lay against all layouts of a job that may be, with budgets about the steps that it took.
func hold(t *testing.T, j api.Job) told {
	t.Helper()
	want := goThrough(j)
	most := want.layouts*int64(len(j.Apart)+1) + 1
	if !Right(j) || Most(j) != most {
		t.Fatalf("%v: Right %v, Most %d, not %d", j, Right(j), Most(j), most)
	}
	wanted := api.OK
	if !want.ok {
		wanted = api.ErrFit
	}
	f, steps, e := Lay(j, most)
	if e != wanted || !sameFit(f, want.fit) || steps < 1 || steps > most {
		t.Fatalf("%v: Lay: %v, %d steps of %d, %d, not %v, %d", j, f, steps, most, int(e), want.fit, int(wanted))
	}
	for _, budget := range []int64{steps, steps + 1, math.MaxInt64} {
		if again, took, e := Lay(j, budget); e != wanted || took != steps || !sameFit(again, f) {
			t.Fatalf("%v: Lay by %d: %v, %d, %d, not %v, %d, %d", j, budget, again, took, int(e), f, steps, int(wanted))
		}
	}
	for _, budget := range []int64{1, steps / 2, steps - 1} {
		if budget > 0 && budget < steps {
			holdSpent(t, j, budget, budget)
		}
	}
	return want
}

// holdSpent holds that a budget is too little, and what is told beside.
func holdSpent(t *testing.T, j api.Job, budget, steps int64) {
	t.Helper()
	if f, took, e := Lay(j, budget); e != api.ErrBudget || took != steps || !reflect.DeepEqual(f, api.Fit{}) {
		t.Fatalf("%v: Lay by %d: %v, %d, %d, not ErrBudget and %d", j, budget, f, took, int(e), steps)
	}
}

// anyJob makes a job by chance, of rows of at most so many times, each of these, and at most so many Pairs, the same one twice or not.
func anyJob(chance *rand.Rand, first, second, pairs int, times ...int64) api.Job {
	row := func(n int) []int64 {
		var l []int64
		for range 1 + chance.Intn(n) {
			l = append(l, times[chance.Intn(len(times))])
		}
		return l
	}
	j := api.Job{Rows: [][]int64{row(first)}, Free: []bool{chance.Intn(2) == 0}}
	if second == 0 {
		return j
	}
	j.Rows = append(j.Rows, row(second))
	j.Free = append(j.Free, chance.Intn(2) == 0)
	for range chance.Intn(pairs + 1) {
		j.Apart = append(j.Apart, api.Pair{A: chance.Intn(len(j.Rows[0])), B: chance.Intn(len(j.Rows[1]))})
	}
	return j
}

// eachRow goes through all rows of n of these times.
func eachRow(n int, times []int64, meet func([]int64)) {
	row := make([]int64, n)
	var choose func(int)
	choose = func(k int) {
		if k == n {
			meet(slices.Clone(row))
			return
		}
		for _, x := range times {
			row[k] = x
			choose(k + 1)
		}
	}
	choose(0)
}

// Promises 15.1 and 15.2: all jobs of one row.
func TestAllJobsOfOneRow(t *testing.T) {
	for n := 1; n <= api.MaxRow; n++ {
		eachRow(n, []int64{0, 1, 2, api.MaxTime}, func(row []int64) {
			hold(t, api.Job{Rows: [][]int64{row}, Free: []bool{false}})
			hold(t, api.Job{Rows: [][]int64{row}, Free: []bool{true}, Apart: []api.Pair{}})
		})
	}
}

// Promises 15.1 and 15.2: all jobs of two rows of one or two times, free or not, with each row of at most two Pairs.
func TestAllSmallJobs(t *testing.T) {
	jobs, none, several := 0, 0, 0
	meet := func(j api.Job) {
		x := hold(t, j)
		jobs++
		if !x.ok {
			none++
		}
		if x.firsts > 1 {
			several++
		}
	}
	each := func(a, b []int64, free []bool) {
		var pairs []api.Pair
		for p := range len(a) * len(b) {
			pairs = append(pairs, api.Pair{A: p / len(b), B: p % len(b)})
		}
		j := api.Job{Rows: [][]int64{a, b}, Free: free}
		meet(j)
		for _, p := range pairs {
			j.Apart = []api.Pair{p}
			meet(j)
			for _, q := range pairs {
				j.Apart = []api.Pair{p, q}
				meet(j)
			}
		}
	}
	for size := range 4 {
		eachRow(1+size/2, []int64{0, 1, 3}, func(a []int64) {
			eachRow(1+size%2, []int64{0, 1, 2}, func(b []int64) {
				for free := range 4 {
					each(a, b, []bool{free/2 == 1, free%2 == 1})
				}
			})
		})
	}
	if jobs != 4*(9*3+2*27*7+81*21) || none < 500 || several < 500 {
		t.Error("jobs:", jobs, "of which nothing fits:", none, "and several layouts have the least time:", several)
	}
}

// Promises 15.1 and 15.2: jobs by chance, with times of 0, the same Pair twice, Pairs in one order and the other way round.
func TestJobsByChance(t *testing.T) {
	chance := rand.New(rand.NewSource(15))
	none, several, both := 0, 0, 0
	for k := range 4000 {
		times := [][]int64{{0, 1, 2}, {1, 2, 3}, {0, 0, 5}, {1, 1, 1, 2}, {0, 7, 6000}, {51, 60, 73}}[k%6]
		j := anyJob(chance, 4, 4, 5, times...)
		if j.Free[0] && j.Free[1] && len(j.Rows[0])+len(j.Rows[1]) > 6 {
			j.Free[k/6%2] = false
		}
		x := hold(t, j)
		if !x.ok {
			none++
		}
		if x.firsts > 1 {
			several++
		}
		if j.Free[0] && j.Free[1] && x.ok {
			both++
		}
		back := j
		back.Apart = slices.Clone(j.Apart)
		slices.Reverse(back.Apart)
		hold(t, back)
	}
	if none < 400 || several < 400 || both < 400 {
		t.Error("jobs of which nothing fits:", none, "of which several layouts have the least time:", several, "of which both rows are free:", both)
	}
}

// Promises 15.1 and 15.2: jobs by chance of two rows of MaxRow, both free.
func TestGreatJobsByChance(t *testing.T) {
	chance := rand.New(rand.NewSource(151))
	for k := range 60 {
		times := [][]int64{{1, 2, 3}, {0, 4, 9}, {60, 61, 73, 6000}}[k%3]
		j := api.Job{Rows: [][]int64{make([]int64, api.MaxRow), make([]int64, api.MaxRow)}, Free: []bool{true, true}}
		for _, row := range j.Rows {
			for i := range row {
				row[i] = times[chance.Intn(len(times))]
			}
		}
		for range chance.Intn(6) {
			j.Apart = append(j.Apart, api.Pair{A: chance.Intn(api.MaxRow), B: chance.Intn(api.MaxRow)})
		}
		hold(t, j)
	}
}

// Promises 15.1 and 15.2: as many Pairs as there may be, in rows that are not free.
func TestManyPairs(t *testing.T) {
	chance := rand.New(rand.NewSource(16))
	none := 0
	for k := range 24 {
		j := api.Job{Rows: [][]int64{make([]int64, api.MaxRow), make([]int64, api.MaxRow)}, Free: []bool{false, false}}
		for _, row := range j.Rows {
			for i := range row {
				row[i] = chance.Int63n(4) * int64(k%3)
			}
		}
		for range 13 + k%4 {
			// Where k is even, no Pair is one that nothing keeps.
			j.Apart = append(j.Apart, api.Pair{A: 1 + chance.Intn(2+k%2), B: 1 + chance.Intn(2+k%2)})
		}
		if x := hold(t, j); !x.ok {
			none++
		}
	}
	if none < 4 || none > 20 {
		t.Error("of 24 jobs nothing fits:", none)
	}
}

// eachStart goes through the begins of n phases that follow one another from 0 to a time, and that time behind them.
func eachStart(n int, whole int64, meet func([]int64) bool) bool {
	starts := make([]int64, n+1)
	starts[n] = whole
	var choose func(int) bool
	choose = func(k int) bool {
		if k == n {
			return meet(starts)
		}
		for starts[k] = starts[k-1]; starts[k] <= whole; starts[k]++ {
			if choose(k + 1) {
				return true
			}
		}
		return false
	}
	return choose(1)
}

// keeps tells by the chapter's words whether phases that begin then keep a job: each lasts as long as its time, and of each Pair one ends no later than the other one begins.
func keeps(j api.Job, orders [][]int, starts [][]int64) bool {
	for r, p := range orders {
		for k, phase := range p {
			if starts[r][k+1]-starts[r][k] < j.Rows[r][phase] {
				return false
			}
		}
	}
	for _, p := range j.Apart {
		a, b := slices.Index(orders[0], p.A), slices.Index(orders[1], p.B)
		if starts[0][a+1] > starts[1][b] && starts[1][b+1] > starts[0][a] {
			return false
		}
	}
	return true
}

// shortest tells the least time up to a bound for which phases can begin so that a job is kept, found by trying all begins; -1, if there is none.
func shortest(j api.Job, bound int64) int64 {
	none := j
	none.Apart = nil
	for whole := int64(0); whole <= bound; whole++ {
		found := false
		eachLayout(none, func(orders [][]int, _ []bool) {
			found = found || eachStart(len(orders[0]), whole, func(first []int64) bool {
				if len(orders) == 1 {
					return keeps(j, orders, [][]int64{first})
				}
				return eachStart(len(orders[1]), whole, func(second []int64) bool {
					return keeps(j, orders, [][]int64{first, second})
				})
			})
		})
		if found {
			return whole
		}
	}
	return -1
}

// Promise 15.2: no begins that keep the job are done sooner, and those that are told keep it.
func TestNoBeginsAreShorter(t *testing.T) {
	chance := rand.New(rand.NewSource(152))
	none := 0
	for k := range 1500 {
		j := anyJob(chance, 3, k%4, 4, 0, 1, 2)
		var all int64
		for _, row := range j.Rows {
			for _, x := range row {
				all += x
			}
		}
		f, _, e := Lay(j, Most(j))
		want := shortest(j, all)
		if want < 0 {
			none++
		}
		if (want < 0) != (e == api.ErrFit) || e == api.OK && f.Least != want {
			t.Fatalf("%v: %v, %d, not %d", j, f, int(e), want)
		}
		if e != api.OK {
			continue
		}
		starts := make([][]int64, len(f.Starts))
		for r, l := range f.Starts {
			starts[r] = append(slices.Clone(l), f.Least)
			if l[0] != 0 {
				t.Fatalf("%v: %v begins late", j, f)
			}
		}
		if !keeps(j, f.Orders, starts) {
			t.Fatalf("%v: %v does not keep it", j, f)
		}
	}
	if none < 100 {
		t.Error("jobs of which nothing fits:", none)
	}
}

// Promise 15.3: no group lasts less than a ring's times together, and one phase that needs more makes it no shorter.
func TestNeedsMore(t *testing.T) {
	chance := rand.New(rand.NewSource(153))
	longer := 0
	for range 4000 {
		j := anyJob(chance, 4, chance.Intn(5), 6, 1, 2, 5, 60, 61)
		f, _, e := Lay(j, Most(j))
		for _, row := range j.Rows {
			var all int64
			for _, x := range row {
				all += x
			}
			if e == api.OK && f.Least < all {
				t.Fatalf("%v: %v is shorter than %d", j, f, all)
			}
		}
		r := chance.Intn(len(j.Rows))
		j.Rows[r][chance.Intn(len(j.Rows[r]))] += []int64{1, 2, 50, 5000}[chance.Intn(4)]
		g, _, e2 := Lay(j, Most(j))
		if e != e2 || g.Least < f.Least {
			t.Fatalf("%v: %v, %d, but with less %v, %d", j, g, int(e2), f, int(e))
		}
		if g.Least > f.Least {
			longer++
		}
	}
	if longer < 1000 {
		t.Error("groups that are longer:", longer)
	}
}
