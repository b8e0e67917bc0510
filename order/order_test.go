package order

import (
	"math"
	"math/rand"
	"slices"
	"testing"
)

// counts holds how many orders there are of 0, 1, .., 8 numbers, written out.
var counts = []int{1, 1, 2, 6, 24, 120, 720, 5040, 40320}

// outside holds numbers of which there are no orders.
var outside = []int{-1, 9, -2, 10, 64, 1 << 31, -1 << 31, math.MinInt, math.MaxInt, math.MinInt + 1, math.MaxInt - 1}

// isOrder says by the chapter's words whether p is an order: every number from 0 to n - 1 is met just once.
func isOrder(p []int) bool {
	if len(p) > 8 {
		return false
	}
	for number := 0; number < len(p); number++ {
		met := 0
		for _, x := range p {
			if x == number {
				met++
			}
		}
		if met != 1 {
			return false
		}
	}
	return true
}

// eachRow goes through all rows of n numbers from low to high, those whose first unlike number is the lesser one ahead.
func eachRow(n, low, high int, meet func([]int)) {
	p := make([]int, n)
	for i := range p {
		p[i] = low
	}
	for {
		meet(p)
		i := n - 1
		for i >= 0 && p[i] == high {
			p[i] = low
			i--
		}
		if i < 0 {
			return
		}
		p[i]++
	}
}

// allOrders gathers all orders of n by leaving out of all rows those that are none: no step of it is one of the package.
func allOrders(n int) [][]int {
	var all [][]int
	eachRow(n, 0, n-1, func(p []int) {
		met := 0
		for _, x := range p {
			met |= 1 << x
		}
		if met == 1<<n-1 {
			all = append(all, slices.Clone(p))
		}
	})
	return all
}

// guarded lays p ahead of other numbers in one memory, and says whether all of it is still the same.
func guarded(p []int) ([]int, func() bool) {
	memory := append(slices.Clone(p), 7, -3, 5)
	kept := slices.Clone(memory)
	return memory[:len(p)], func() bool { return slices.Equal(memory, kept) }
}

// wrongRows holds rows that are no orders: a number twice, one below 0, one too great, nine numbers and more.
func wrongRows() [][]int {
	nine := []int{0, 1, 2, 3, 4, 5, 6, 7, 8}
	down := []int{8, 7, 6, 5, 4, 3, 2, 1, 0}
	return [][]int{
		{1}, {-1}, {math.MinInt}, {math.MaxInt},
		{0, 0}, {1, 1}, {0, 2}, {2, 0}, {-1, 0}, {0, -1}, {1, 2},
		{0, 1, 1}, {1, 2, 3}, {0, 1, 3}, {3, 1, 0}, {2, 1, 2}, {0, 1, -1}, {0, 1, math.MinInt}, {0, math.MaxInt, 1},
		{0, 1, 2, 3, 4, 5, 6, 6}, {0, 1, 2, 3, 4, 5, 6, 8}, {1, 2, 3, 4, 5, 6, 7, 8}, {7, 6, 5, 4, 3, 2, 1, 1}, {-1, 0, 1, 2, 3, 4, 5, 6},
		{0, 1, 2, 3, 4, 5, 6, 7, 7}, nine, down, append(slices.Clone(nine), 9), make([]int, 9), make([]int, 1000),
	}
}

// The chapter's examples.
func TestExamples(t *testing.T) {
	if p := Nth(3, 3); !slices.Equal(p, []int{1, 2, 0}) {
		t.Error("Nth(3, 3):", p)
	}
	if r := Rank([]int{2, 1, 0}); r != 5 {
		t.Error("Rank of 2 1 0:", r)
	}
	if p, ok := Next([]int{0, 2, 1}); !ok || !slices.Equal(p, []int{1, 0, 2}) {
		t.Error("Next of 0 2 1:", p, ok)
	}
}

// Promise 13.1: Count at and beyond each of its bounds.
func TestCount(t *testing.T) {
	for n, want := range counts {
		if got := Count(n); got != want {
			t.Errorf("Count(%d): %d, not %d", n, got, want)
		}
	}
	for _, n := range outside {
		if got := Count(n); got != 0 {
			t.Errorf("Count(%d): %d, not 0", n, got)
		}
	}
}

// Promises 13.1 and 13.3: of every n, every order has its place, by Nth and by Rank, and Next goes to the one behind it.
func TestEveryOrder(t *testing.T) {
	for n, many := range counts {
		all := allOrders(n)
		if len(all) != many || Count(n) != many {
			t.Fatalf("orders of %d: %d, Count %d, not %d", n, len(all), Count(n), many)
		}
		for k, want := range all {
			if got := Nth(n, k); !slices.Equal(got, want) {
				t.Fatalf("Nth(%d, %d): %v, not %v", n, k, got, want)
			}
			if got := Rank(want); got != k {
				t.Fatalf("Rank of %v: %d, not %d", want, got, k)
			}
			if got := Rank(Nth(n, k)); got != k {
				t.Fatalf("Rank of Nth(%d, %d): %d", n, k, got)
			}
			next, ok := Next(want)
			if ok != (k+1 < many) || ok && !slices.Equal(next, all[k+1]) || !ok && len(next) != 0 {
				t.Fatalf("Next of %v: %v, %v", want, next, ok)
			}
			if ok && Rank(next) != k+1 {
				t.Fatalf("Rank of the one behind %v: %d, not %d", want, Rank(next), k+1)
			}
		}
	}
}

// Promise 13.1: Nth beyond each bound of n and of k.
func TestNthNone(t *testing.T) {
	for n, many := range counts {
		if n > 0 && (!slices.Equal(Nth(n, 0), allRising(n)) || !slices.Equal(Nth(n, many-1), allFalling(n))) {
			t.Errorf("first and last order of %d: %v and %v", n, Nth(n, 0), Nth(n, many-1))
		}
		for _, k := range []int{-1, -2, -many, many, many + 1, 2 * many, 40320, 1 << 32, math.MinInt, math.MaxInt} {
			if p := Nth(n, k); p != nil {
				t.Errorf("Nth(%d, %d): %v, not none", n, k, p)
			}
		}
	}
	for _, n := range outside {
		for _, k := range []int{-1, 0, 1, 40319, 40320, math.MinInt, math.MaxInt} {
			if p := Nth(n, k); p != nil {
				t.Errorf("Nth(%d, %d): %v, not none", n, k, p)
			}
		}
	}
}

func allRising(n int) []int {
	var p []int
	for i := 0; i < n; i++ {
		p = append(p, i)
	}
	return p
}

func allFalling(n int) []int {
	p := allRising(n)
	slices.Reverse(p)
	return p
}

// Promises 13.1 and 13.2: the order of no numbers is an order, told as nil or not.
func TestNoNumbers(t *testing.T) {
	ahead := []int{4, 5}
	for _, p := range [][]int{nil, {}, ahead[:0]} {
		if r := Rank(p); r != 0 {
			t.Error("Rank of no numbers:", r)
		}
		if next, ok := Next(p); ok || len(next) != 0 {
			t.Error("Next of no numbers:", next, ok)
		}
		if at := Turned(p); len(at) != 0 {
			t.Error("Turned of no numbers:", at)
		}
	}
	if p := Nth(0, 0); len(p) != 0 {
		t.Error("Nth(0, 0):", p)
	}
}

// Promises 13.1 and 13.2: of rows that are no orders, nothing is told.
func TestWrongRows(t *testing.T) {
	for _, p := range wrongRows() {
		holdNone(t, p)
	}
}

func holdNone(t *testing.T, p []int) {
	t.Helper()
	if r := Rank(p); r != -1 {
		t.Fatalf("Rank of %v: %d, not -1", p, r)
	}
	if next, ok := Next(p); ok || next != nil {
		t.Fatalf("Next of %v: %v, %v", p, next, ok)
	}
	if at := Turned(p); at != nil {
		t.Fatalf("Turned of %v: %v", p, at)
	}
}

// Promises 13.1 and 13.2: of all rows of up to five numbers from -1 to one too many, those that are orders are told from those that are none.
func TestEveryRow(t *testing.T) {
	for n := 0; n <= 5; n++ {
		many := 0
		eachRow(n, -1, n+1, func(p []int) {
			if !isOrder(p) {
				holdNone(t, p)
				return
			}
			if r := Rank(p); r != many {
				t.Fatalf("Rank of %v: %d, not %d", p, r, many)
			}
			holdTurned(t, p)
			many++
		})
		if many != counts[n] {
			t.Fatalf("orders of %d met: %d", n, many)
		}
	}
}

// Promise 13.2: each number stands where Turned says, and Turned twice is the order itself.
func holdTurned(t *testing.T, p []int) {
	t.Helper()
	at := Turned(p)
	if len(at) != len(p) {
		t.Fatalf("Turned of %v: %v", p, at)
	}
	for number, place := range at {
		if place < 0 || place >= len(p) || p[place] != number {
			t.Fatalf("Turned of %v: %v", p, at)
		}
	}
	if again := Turned(at); !slices.Equal(again, p) {
		t.Fatalf("Turned of Turned of %v: %v", p, again)
	}
}

// Promise 13.2: Turned of the first, the last and of orders that are not their own turned ones, of every n.
func TestTurned(t *testing.T) {
	if at := Turned([]int{2, 0, 1}); !slices.Equal(at, []int{1, 2, 0}) {
		t.Error("Turned of 2 0 1:", at)
	}
	if at := Turned([]int{3, 0, 2, 1}); !slices.Equal(at, []int{1, 3, 2, 0}) {
		t.Error("Turned of 3 0 2 1:", at)
	}
	chance := rand.New(rand.NewSource(13))
	for n := range counts {
		holdTurned(t, allRising(n))
		holdTurned(t, allFalling(n))
		for range 200 {
			holdTurned(t, chance.Perm(n))
		}
	}
}

// Promise 13.2: Rows of every n, free and not.
func TestRows(t *testing.T) {
	for n := range counts {
		if got, want := Rows(true, n), allOrders(n); !slices.EqualFunc(got, want, slices.Equal[[]int]) {
			t.Errorf("Rows(true, %d): %d rows, unlike the %d that there are", n, len(got), len(want))
		}
		if got := Rows(false, n); len(got) != 1 || !slices.Equal(got[0], allRising(n)) {
			t.Errorf("Rows(false, %d): %v", n, got)
		}
	}
	for _, n := range outside {
		if free, bound := Rows(true, n), Rows(false, n); len(free) != 0 || len(bound) != 0 {
			t.Errorf("Rows of %d: %v and %v, not none", n, free, bound)
		}
	}
}

// Promises 13.1 to 13.3 on orders by chance of seven and eight numbers, with one number changed: an order no more.
func TestByChance(t *testing.T) {
	chance := rand.New(rand.NewSource(131))
	for range 2000 {
		n := 7 + chance.Intn(2)
		p := chance.Perm(n)
		k := Rank(p)
		if !slices.Equal(Nth(n, k), p) {
			t.Fatalf("Nth(%d, Rank of %v): %v", n, p, Nth(n, k))
		}
		if next, ok := Next(p); ok && (Rank(next) != k+1 || slices.Compare(next, p) <= 0) {
			t.Fatalf("Next of %v: %v", p, next)
		}
		at := chance.Intn(n)
		for was := p[at]; p[at] == was; {
			p[at] = chance.Intn(n+4) - 2
		}
		holdNone(t, p)
	}
}

// R4: what is handed in is not changed, nor what lies behind its end.
func TestNotChanged(t *testing.T) {
	rows := wrongRows()
	for n := range counts {
		rows = append(rows, allRising(n), allFalling(n))
	}
	chance := rand.New(rand.NewSource(4))
	for range 100 {
		rows = append(rows, chance.Perm(chance.Intn(9)))
	}
	for _, row := range rows {
		p, same := guarded(row)
		Rank(p)
		Next(p)
		Turned(p)
		if !same() {
			t.Fatalf("%v was changed", row)
		}
	}
}

// R4: what is handed out is new memory: writing to it, and behind it, changes no other answer and no argument.
func TestNewMemory(t *testing.T) {
	spoil := func(p []int) {
		p = p[:cap(p)]
		for i := range p {
			p[i] = -9
		}
	}
	p, same := guarded([]int{1, 0, 2})
	next, _ := Next(p)
	spoil(next)
	spoil(Turned(p))
	spoil(Nth(3, 2))
	if !same() || !slices.Equal(Nth(3, 2), []int{1, 0, 2}) || !slices.Equal(Turned(p), []int{1, 0, 2}) {
		t.Error("an answer shares memory")
	}
	rows := Rows(true, 4)
	for i, row := range rows {
		if !slices.Equal(row, Nth(4, i)) {
			t.Fatalf("row %d is %v, when those ahead of it are written to", i, row)
		}
		spoil(row)
	}
	spoil(Rows(false, 4)[0])
	if !slices.Equal(Rows(false, 4)[0], []int{0, 1, 2, 3}) || !slices.Equal(Rows(true, 4)[23], []int{3, 2, 1, 0}) {
		t.Error("rows share memory from call to call")
	}
}
