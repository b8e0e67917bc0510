package group

import (
	"math"
	"reflect"
	"slices"
	"testing"

	"carrefour/api"
)

// job makes a job of two rows, with Pairs by their places, two a Pair.
func job(first, second []int64, free1, free2 bool, places ...int) api.Job {
	j := api.Job{Rows: [][]int64{first, second}, Free: []bool{free1, free2}}
	for i := 0; i+1 < len(places); i += 2 {
		j.Apart = append(j.Apart, api.Pair{A: places[i], B: places[i+1]})
	}
	return j
}

// alone makes a job of one row.
func alone(free bool, times ...int64) api.Job {
	return api.Job{Rows: [][]int64{times}, Free: []bool{free}}
}

// copied tells a job of the same numbers in other memory.
func copied(j api.Job) api.Job {
	c := api.Job{Free: slices.Clone(j.Free), Apart: slices.Clone(j.Apart)}
	for _, row := range j.Rows {
		c.Rows = append(c.Rows, slices.Clone(row))
	}
	return c
}

// wantNone holds that a job may not be, and what each call tells of it then.
func wantNone(t *testing.T, name string, j api.Job) {
	t.Helper()
	if Right(j) || Most(j) != 0 {
		t.Errorf("%s: Right %v, Most %d", name, Right(j), Most(j))
	}
	for _, budget := range []int64{math.MinInt64, -1, 0, 1, 1000, math.MaxInt64} {
		if f, steps, e := Lay(j, budget); e != api.ErrArg || steps != 0 || !reflect.DeepEqual(f, api.Fit{}) {
			t.Errorf("%s: Lay by %d: %v, %d, %d, not ErrArg", name, budget, f, steps, int(e))
		}
	}
}

// wantRight holds that a job may be, and how many steps it may take.
func wantRight(t *testing.T, name string, j api.Job, most int64) {
	t.Helper()
	if !Right(j) || Most(j) != most {
		t.Errorf("%s: Right %v, Most %d, not %d", name, Right(j), Most(j), most)
	}
	if _, steps, e := Lay(j, math.MaxInt64); e != api.OK && e != api.ErrFit || steps < 1 || steps > most {
		t.Errorf("%s: Lay: %d steps, %d", name, steps, int(e))
	}
}

// Promise 15.2: the chapter's examples.
func TestExamples(t *testing.T) {
	for _, r := range []struct {
		j     api.Job
		least int64
		e     api.Errno
	}{
		{job([]int64{5, 3}, []int64{4, 4}, false, false, 0, 1), 9, api.OK},
		{job([]int64{5, 3}, []int64{4, 4}, false, false, 0, 0), 0, api.ErrFit},
		{job([]int64{5, 3}, []int64{4, 4}, true, true, 0, 0), 9, api.OK},
	} {
		if f, _, e := Lay(r.j, Most(r.j)); f.Least != r.least || e != r.e {
			t.Errorf("%v: %v, %d, not %d, %d", r.j, f, int(e), r.least, int(r.e))
		}
	}
}

// Promise 15.1: how many rows there may be, and how many times each.
func TestRows(t *testing.T) {
	wantNone(t, "nothing", api.Job{})
	wantNone(t, "no row", api.Job{Rows: [][]int64{}, Free: []bool{}, Apart: []api.Pair{}})
	wantNone(t, "three rows", api.Job{Rows: [][]int64{{1}, {1}, {1}}, Free: []bool{false, false, false}})
	wantNone(t, "three rows, free", api.Job{Rows: [][]int64{{1}, {1}, {1}}, Free: []bool{true, true, true}, Apart: []api.Pair{{}}})
	wantNone(t, "a row of none", alone(false))
	wantNone(t, "a row of none, free", api.Job{Rows: [][]int64{nil}, Free: []bool{true}})
	wantNone(t, "a row of one more than MaxRow", alone(false, 1, 1, 1, 1, 1))
	wantNone(t, "a row of many", alone(true, make([]int64, 100000)...))
	wantNone(t, "the first row of none", job(nil, []int64{1}, false, false))
	wantNone(t, "the second row of none", job([]int64{1}, []int64{}, false, false))
	wantNone(t, "the first row of one more than MaxRow", job([]int64{1, 1, 1, 1, 1}, []int64{1}, true, false))
	wantNone(t, "the second row of one more than MaxRow", job([]int64{1}, []int64{1, 1, 1, 1, 1}, false, true))
	orders := []int64{1, 2, 6, 24}
	for n := 1; n <= api.MaxRow; n++ {
		row := slices.Repeat([]int64{7}, n)
		wantRight(t, "a row", alone(false, row...), 2)
		wantRight(t, "a free row", alone(true, row...), orders[n-1]+1)
		for m := 1; m <= api.MaxRow; m++ {
			other := slices.Repeat([]int64{5}, m)
			wantRight(t, "two rows", job(row, other, false, false), 2)
			wantRight(t, "the first one free", job(row, other, true, false), orders[n-1]+1)
			wantRight(t, "the second one free", job(row, other, false, true), orders[m-1]+1)
			wantRight(t, "both free", job(row, other, true, true), orders[n-1]*orders[m-1]+1)
		}
	}
}

// Promise 15.1: how long a time may be, wherever it stands.
func TestTimes(t *testing.T) {
	for _, x := range []int64{math.MinInt64, -1 << 32, -api.MaxTime, -1, api.MaxTime + 1, 1 << 32, 1<<32 + 1, math.MaxInt64} {
		for at := range api.MaxRow {
			row := []int64{1, 2, 3, 4}
			row[at] = x
			wantNone(t, "one row", alone(at%2 == 0, row...))
			wantNone(t, "the first row", job(row, []int64{1}, false, true))
			wantNone(t, "the second row", job([]int64{1}, row, true, true, 0, at))
		}
	}
	for _, x := range []int64{0, 1, api.MaxTime - 1, api.MaxTime} {
		wantFit(t, alone(false, x), api.Fit{Least: x, Orders: [][]int{{0}}, Starts: [][]int64{{0}}})
		wantFit(t, alone(true, x, 1, x, 2), api.Fit{Least: 2*x + 3, Orders: [][]int{{0, 1, 2, 3}}, Starts: [][]int64{{0, x, x + 1, 2*x + 1}}})
		wantFit(t, job([]int64{1}, []int64{2, x}, false, true), api.Fit{Least: 2 + x, Orders: [][]int{{0}, {0, 1}}, Starts: [][]int64{{0}, {0, 2}}})
	}
}

// Promise 15.1: as many Free as Rows.
func TestFree(t *testing.T) {
	for n := range 5 {
		free := make([]bool, n)
		one := api.Job{Rows: [][]int64{{3, 4}}, Free: free}
		two := api.Job{Rows: [][]int64{{3, 4}, {5}}, Free: free}
		if n != 1 {
			wantNone(t, "one row", one)
		} else {
			wantRight(t, "one row", one, 2)
		}
		if n != 2 {
			wantNone(t, "two rows", two)
		} else {
			wantRight(t, "two rows", two, 2)
		}
	}
}

// Promise 15.1: how many Pairs there may be, and which.
func TestPairs(t *testing.T) {
	one := alone(true, 3, 4)
	one.Apart = []api.Pair{{}}
	wantNone(t, "a Pair with one row", one)
	one.Apart = []api.Pair{{A: 0, B: 1}}
	wantNone(t, "a Pair of one row's phases", one)
	one.Apart = []api.Pair{}
	wantRight(t, "no Pair with one row", one, 3)
	for n := range 18 {
		j := job([]int64{3, 4, 1}, []int64{2, 5, 1}, false, false)
		for range n {
			j.Apart = append(j.Apart, api.Pair{A: 1, B: 1})
		}
		if n > 16 {
			wantNone(t, "17 Pairs", j)
			continue
		}
		wantRight(t, "Pairs", j, int64(n+1)<<n+1)
		j.Free[1] = true
		wantRight(t, "Pairs, a row free", j, 6*int64(n+1)<<n+1)
	}
	all := job([]int64{3, 4, 1, 2}, []int64{2, 5, 1, 7}, true, true)
	for p := range 16 {
		all.Apart = append(all.Apart, api.Pair{A: p / 4, B: p % 4})
	}
	wantRight(t, "all Pairs", all, 576*65536*17+1)
	wrong := []int{math.MinInt, -1 << 32, -2, -1, 3, 4, 1 << 32, 1<<32 + 1, math.MaxInt}
	for _, p := range wrong {
		wantNone(t, "an A", job([]int64{3, 4, 1}, []int64{2, 5, 1}, true, true, p, 0))
		wantNone(t, "a B", job([]int64{3, 4, 1}, []int64{2, 5, 1}, true, true, 0, p))
		wantNone(t, "an A behind another one", job([]int64{3, 4, 1}, []int64{2, 5, 1}, true, true, 1, 1, p, 1))
		wantNone(t, "a B ahead of another one", job([]int64{3, 4, 1}, []int64{2, 5, 1}, true, true, 1, p, 1, 1))
	}
	wantNone(t, "an A that is a place of the second row alone", job([]int64{3}, []int64{2, 5}, true, true, 1, 0))
	wantNone(t, "a B that is a place of the first row alone", job([]int64{3, 2}, []int64{5}, true, true, 0, 1))
	wantRight(t, "an A at the end", job([]int64{3, 2}, []int64{5}, true, true, 1, 0), 9)
	wantRight(t, "a B at the end", job([]int64{3}, []int64{5, 2}, true, true, 0, 1), 9)
}

// wantFit holds that a job is laid out so, and takes no more steps than it may.
func wantFit(t *testing.T, j api.Job, want api.Fit) {
	t.Helper()
	f, steps, e := Lay(j, Most(j))
	if e != api.OK || !sameFit(f, want) || steps < 1 || steps > Most(j) {
		t.Errorf("%v: %v, %d, %d, not %v", j, f, steps, int(e), want)
	}
}

// Promise 15.2: jobs and how they are laid out, written out.
func TestLayouts(t *testing.T) {
	for _, r := range []struct {
		j      api.Job
		least  int64
		orders [][]int
		starts [][]int64
	}{
		{alone(false, 7, 2, 4), 13, [][]int{{0, 1, 2}}, [][]int64{{0, 7, 9}}},
		{alone(true, 7, 2, 4), 13, [][]int{{0, 1, 2}}, [][]int64{{0, 7, 9}}},
		{job([]int64{5, 3}, []int64{4, 4}, true, true), 8, [][]int{{0, 1}, {0, 1}}, [][]int64{{0, 5}, {0, 4}}},
		{job([]int64{5}, []int64{1, 1}, false, false), 5, [][]int{{0}, {0, 1}}, [][]int64{{0}, {0, 1}}},
		{job([]int64{5, 3}, []int64{4, 4}, false, false, 0, 1), 9, [][]int{{0, 1}, {0, 1}}, [][]int64{{0, 5}, {0, 5}}},
		{job([]int64{5, 3}, []int64{4, 4}, true, true, 0, 0), 9, [][]int{{0, 1}, {1, 0}}, [][]int64{{0, 5}, {0, 5}}},
		// The second row alone is free, then the first one alone.
		{job([]int64{6, 5}, []int64{3, 4}, false, true, 1, 1), 11, [][]int{{0, 1}, {1, 0}}, [][]int64{{0, 6}, {0, 4}}},
		{job([]int64{6, 5}, []int64{3, 4}, true, false, 1, 1), 11, [][]int{{1, 0}, {0, 1}}, [][]int64{{0, 5}, {0, 5}}},
		// The least time is a later order's alone.
		{job([]int64{1, 1, 8}, []int64{8, 1, 1}, true, false, 0, 0), 10, [][]int{{1, 2, 0}, {0, 1, 2}}, [][]int64{{0, 1, 9}, {0, 8, 9}}},
		// Both are as short: the phase of the first row is first.
		{job([]int64{1, 1, 1}, []int64{1, 1, 1}, false, false, 1, 1), 4, [][]int{{0, 1, 2}, {0, 1, 2}}, [][]int64{{0, 1, 2}, {0, 2, 3}}},
		// The phase of the second row is first, as the other way is longer, or as there is none.
		{job([]int64{5, 1, 1}, []int64{1, 1, 1}, false, false, 1, 1), 7, [][]int{{0, 1, 2}, {0, 1, 2}}, [][]int64{{0, 5, 6}, {0, 1, 2}}},
		{job([]int64{1, 1, 1}, []int64{2, 1, 1}, false, false, 1, 0), 4, [][]int{{0, 1, 2}, {0, 1, 2}}, [][]int64{{0, 2, 3}, {0, 2, 3}}},
		// The first row's order goes ahead of the second's.
		{job([]int64{2, 2}, []int64{2, 2}, true, true, 0, 0, 1, 1), 4, [][]int{{0, 1}, {1, 0}}, [][]int64{{0, 2}, {0, 2}}},
		// What is stretched lasts until the next one begins.
		{job([]int64{1, 9}, []int64{6, 2}, false, false, 1, 0), 15, [][]int{{0, 1}, {0, 1}}, [][]int64{{0, 6}, {0, 6}}},
	} {
		wantFit(t, r.j, api.Fit{Least: r.least, Orders: r.orders, Starts: r.starts})
	}
}

// Promise 15.2: Pairs that no order keeps, with the steps that this takes.
func TestNothingFits(t *testing.T) {
	for _, j := range []api.Job{
		job([]int64{1}, []int64{1}, false, false, 0, 0),
		job([]int64{5}, []int64{0}, true, true, 0, 0),
		job([]int64{0}, []int64{5}, true, true, 0, 0),
		job([]int64{5, 3}, []int64{4, 4}, false, false, 1, 1),
		job([]int64{6, 5}, []int64{3, 4}, true, true, 0, 0, 0, 1),
		job([]int64{1, 1, 1}, []int64{1, 1}, true, true, 0, 0, 0, 1, 2, 1, 1, 0, 1, 1, 2, 0),
		job([]int64{1, 1, 1}, []int64{1, 1, 1}, false, false, 1, 1, 2, 2),
	} {
		f, steps, e := Lay(j, Most(j))
		if e != api.ErrFit || steps < 1 || steps > Most(j) || !reflect.DeepEqual(f, api.Fit{}) {
			t.Errorf("%v: %v, %d, %d, not ErrFit", j, f, steps, int(e))
		}
	}
}

// Promise 15.2: Pairs with times of 0, which may be at one time, but within nothing.
func TestTimesOfNothing(t *testing.T) {
	wantFit(t, job([]int64{0}, []int64{0}, true, true, 0, 0), api.Fit{Orders: [][]int{{0}, {0}}, Starts: [][]int64{{0}, {0}}})
	wantFit(t, job([]int64{0, 0}, []int64{0, 0}, true, true, 0, 0, 0, 1, 1, 0, 1, 1), api.Fit{Orders: [][]int{{0, 1}, {0, 1}}, Starts: [][]int64{{0, 0}, {0, 0}}})
	wantFit(t, job([]int64{5, 0}, []int64{0, 5}, false, false, 1, 0), api.Fit{Least: 5, Orders: [][]int{{0, 1}, {0, 1}}, Starts: [][]int64{{0, 5}, {0, 0}}})
	wantFit(t, job([]int64{0, 5}, []int64{5}, false, false, 0, 0), api.Fit{Least: 5, Orders: [][]int{{0, 1}, {0}}, Starts: [][]int64{{0, 0}, {0}}})
	wantFit(t, job([]int64{5, 0}, []int64{5}, true, false, 1, 0), api.Fit{Least: 5, Orders: [][]int{{0, 1}, {0}}, Starts: [][]int64{{0, 5}, {0}}})
	wantFit(t, job([]int64{3, 4}, []int64{7, 0, 2}, false, false, 1, 1), api.Fit{Least: 11, Orders: [][]int{{0, 1}, {0, 1, 2}}, Starts: [][]int64{{0, 7}, {0, 7, 7}}})
}

// Promise 15.2: the same Pair twice, and as often as may be, tells what it tells once.
func TestSamePair(t *testing.T) {
	for _, j := range []api.Job{
		job([]int64{5, 3}, []int64{4, 4}, false, false, 0, 1),
		job([]int64{5, 3}, []int64{4, 4}, true, true, 0, 0),
		job([]int64{1, 0, 1}, []int64{1, 0, 1}, false, false, 1, 1),
		job([]int64{5, 1, 1}, []int64{1, 1, 1}, false, false, 1, 1),
		job([]int64{6, 5}, []int64{3, 4}, false, false, 1, 1),
	} {
		once, _, e := Lay(j, Most(j))
		for range 15 {
			j.Apart = append(j.Apart, j.Apart[0])
			if f, steps, e2 := Lay(j, Most(j)); e2 != e || !sameFit(f, once) || steps > Most(j) {
				t.Errorf("%v: %v, %d, not %v, %d", j, f, int(e2), once, int(e))
			}
		}
	}
}

// Promise 15.2: budgets below 1, the least one, those about the steps that it takes, Most and the greatest one.
func TestBudgets(t *testing.T) {
	jobs := []api.Job{
		alone(false, 7, 2, 4),
		job([]int64{5, 3}, []int64{4, 4}, true, true, 0, 0),
		job([]int64{5, 3}, []int64{4, 4}, false, false, 0, 0),
		job([]int64{3, 4, 1, 2}, []int64{2, 5, 1, 7}, true, true, 0, 0, 1, 2, 3, 3, 2, 0, 1, 1),
	}
	for _, j := range jobs {
		for _, budget := range []int64{math.MinInt64, math.MinInt64 + 1, -1 << 32, -1, 0} {
			holdSpent(t, j, budget, 0)
		}
		want, steps, e := Lay(j, Most(j))
		for budget := int64(1); budget < steps; budget++ {
			holdSpent(t, j, budget, budget)
		}
		for _, budget := range []int64{steps, steps + 1, Most(j), 1 << 32, api.MaxBudget, math.MaxInt64 - 1, math.MaxInt64} {
			if f, took, e2 := Lay(j, budget); e2 != e || took != steps || !sameFit(f, want) {
				t.Errorf("%v by %d: %v, %d, %d", j, budget, f, took, int(e2))
			}
		}
	}
	if _, steps, e := Lay(jobs[3], 2); steps != 2 || e != api.ErrBudget {
		t.Error("a great job by 2:", steps, int(e))
	}
}

// Promise 15.2: the greatest jobs that may be end.
func TestGreatest(t *testing.T) {
	for _, r := range []struct {
		first, second []int64
		e             api.Errno
	}{
		{[]int64{0, 0, 0, 0}, []int64{0, 0, 0, 0}, api.OK},
		{[]int64{3, 4, 1, 2}, []int64{2, 5, 1, 7}, api.ErrFit},
		{[]int64{6000, 6000, 6000, 6000}, []int64{6000, 6000, 6000, 6000}, api.ErrFit},
	} {
		j := job(r.first, r.second, true, true)
		for p := range 16 {
			j.Apart = append(j.Apart, api.Pair{A: p / 4, B: p % 4})
		}
		if f, steps, e := Lay(j, math.MaxInt64); e != r.e || f.Least != 0 || steps > Most(j) {
			t.Errorf("%v: %v, %d, %d", j, f, steps, int(e))
		}
	}
	j := job([]int64{6000, 6000, 6000, 6000}, []int64{6000, 6000, 6000, 6000}, false, false, 0, 1, 0, 2, 0, 3, 1, 2, 1, 3, 2, 3)
	wantFit(t, j, api.Fit{Least: 24000, Orders: [][]int{{0, 1, 2, 3}, {0, 1, 2, 3}}, Starts: [][]int64{{0, 6000, 12000, 18000}, {0, 6000, 12000, 18000}}})
	j = job([]int64{1, 6000, 6000, 1}, []int64{1, 6000, 6000, 1}, false, false, 1, 1, 1, 2, 2, 1, 2, 2)
	wantFit(t, j, api.Fit{Least: 24002, Orders: [][]int{{0, 1, 2, 3}, {0, 1, 2, 3}}, Starts: [][]int64{{0, 1, 6001, 12001}, {0, 12001, 18001, 24001}}})
}

// R4: what is handed in is not changed, nor what lies behind its end.
func TestNotChanged(t *testing.T) {
	for _, j := range []api.Job{
		alone(true, 7, 2, 4),
		job([]int64{5, 3, 1}, []int64{4, 4}, true, true, 0, 0, 2, 1, 0, 0, 1, 1),
		job([]int64{5, 3, 1}, []int64{4, 4}, false, false, 0, 0),
		job([]int64{5, 3, 1}, []int64{4, 4}, false, true, 0, 2),
		{Rows: [][]int64{{5}, {5}, {5}}, Free: []bool{true}},
	} {
		// Each list is handed in with more of its memory behind it.
		long := copied(j)
		for r, row := range long.Rows {
			long.Rows[r] = append(row, 9, -9)
		}
		long.Rows = append(long.Rows, []int64{8}, nil)
		long.Free = append(long.Free, true, false, true)
		long.Apart = append(long.Apart, api.Pair{A: 7, B: -7}, api.Pair{A: 1})
		kept := copied(long)
		short := api.Job{Rows: long.Rows[:len(j.Rows)], Free: long.Free[:len(j.Free)], Apart: long.Apart[:len(j.Apart)]}
		for r := range short.Rows {
			short.Rows[r] = short.Rows[r][:len(j.Rows[r])]
		}
		Right(short)
		Most(short)
		Lay(short, 2)
		Lay(short, math.MaxInt64)
		for r := range short.Rows {
			short.Rows[r] = short.Rows[r][:len(j.Rows[r])+2]
		}
		if !reflect.DeepEqual(long, kept) {
			t.Errorf("%v was changed: %v, not %v", j, long, kept)
		}
	}
}

// spoil writes over all of a list's memory.
func spoil[T any](l []T, x T) {
	l = l[:cap(l)]
	for i := range l {
		l[i] = x
	}
}

// R4 and R5: what is handed out is new memory, its lists share none, and a call answers the same again, whatever was called ahead.
func TestNewMemory(t *testing.T) {
	j := job([]int64{3, 4, 1}, []int64{2, 5, 1}, true, true, 0, 0, 1, 2, 2, 1)
	kept := copied(j)
	want, steps, _ := Lay(j, math.MaxInt64)
	lists := [][]int{slices.Clone(want.Orders[0]), slices.Clone(want.Orders[1])}
	starts := [][]int64{slices.Clone(want.Starts[0]), slices.Clone(want.Starts[1])}
	least := want.Least
	for r := range 2 {
		spoil(want.Orders[r], -3)
		spoil(want.Starts[r], -3)
		if r == 0 && (!slices.Equal(want.Orders[1], lists[1]) || !slices.Equal(want.Starts[1], starts[1])) {
			t.Error("lists of one answer share memory:", want)
		}
	}
	spoil(want.Orders, nil)
	spoil(want.Starts, nil)
	Lay(j, 3)
	Lay(alone(true, 1, 2, 3), 100)
	f, took, e := Lay(j, math.MaxInt64)
	if e != api.OK || took != steps || !sameFit(f, api.Fit{Least: least, Orders: lists, Starts: starts}) || !reflect.DeepEqual(j, kept) {
		t.Error("again:", f, took, int(e))
	}
}

// R3: lists that are empty may be nil or not.
func TestEmptyLists(t *testing.T) {
	j := job([]int64{5, 3}, []int64{4, 4}, true, false)
	want, steps, _ := Lay(j, 10)
	j.Apart = []api.Pair{}
	if f, took, e := Lay(j, 10); e != api.OK || took != steps || !sameFit(f, want) || Most(j) != 3 {
		t.Error(f, took, int(e), Most(j))
	}
}
