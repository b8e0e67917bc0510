package webster

import (
	"math"
	"math/big"
	"math/rand"
	"reflect"
	"slices"
	"testing"

	"carrefour/api"
	"carrefour/crit"
	"carrefour/frac"
	"carrefour/need"
	"carrefour/net"
)

const (
	lowest  = math.MinInt64
	highest = math.MaxInt64
)

func fr(n, d int64) api.Frac { return api.Frac{Num: n, Den: d} }

func needs(times ...int64) []api.Need {
	var l []api.Need
	for i := 0; i+1 < len(times); i += 2 {
		// Green, ratio and walks are there to be left out.
		l = append(l, api.Need{Phase: "p", Green: 1000, Yellow: times[i], Red: times[i+1], Ratio: fr(1, 3), Walks: []api.Walk{{Ped: "w", Walk: 500, Flash: 700}}})
	}
	return l
}

// Promise 12.1: yellow and red of those that are asked for, and nothing beside.
func TestLost(t *testing.T) {
	l := needs(30, 10, 40, 5, 1, 0, 0, 2000)
	for _, r := range []struct {
		l      []api.Need
		places []int
		want   int64
	}{
		{l, nil, 0},
		{l, []int{}, 0},
		{nil, nil, 0},
		{nil, []int{0, 1, -1}, 0},
		{[]api.Need{}, []int{0}, 0},
		{l, []int{0}, 40},
		{l, []int{1}, 45},
		{l, []int{2}, 1},
		{l, []int{3}, 2000},
		{l, []int{0, 1, 2, 3}, 2086},
		{l, []int{3, 1, 0, 2}, 2086},
		{l, []int{-1}, 0},
		{l, []int{4}, 0},
		{l, []int{-1, 0, 4}, 40},
		{l, []int{math.MinInt, 1, math.MaxInt}, 45},
		{l, []int{-4, -3, -2, 5, 6, 7, 8}, 0},
		{l, []int{1, 1}, 90},
		{l, []int{1, 0, 7, 1}, 130},
		{l, []int{3, 3, 3, 3, 3}, 10000},
		{l, []int{2, -1, 2, 4, 2}, 3},
		{l[:2], []int{0, 1, 2, 3}, 85},
		{l[1:3], []int{0, 1, 2}, 46},
	} {
		if got := Lost(r.l, r.places); got != r.want {
			t.Errorf("%v of %d needs: %d, want %d", r.places, len(r.l), got, r.want)
		}
	}
}

// Promise 12.1, R6: numbers may be any; what fits at the end is told, though a sum on the way does not fit.
func TestLostOfGreatNumbers(t *testing.T) {
	l := needs(highest, 0, 0, lowest, -5, -7, highest, 1, lowest, -1)
	for _, r := range []struct {
		places []int
		want   int64
	}{
		{[]int{0}, highest},
		{[]int{1}, lowest},
		{[]int{2}, -12},
		{[]int{0, 1}, -1},
		{[]int{2, 0}, highest - 12},
		{[]int{0, 0, 1, 1}, -2},
		{[]int{3, 2, 2}, highest - 23},
		{[]int{3, 4}, -1},
		{[]int{4, 1, 3, 0}, -2},
	} {
		if got := Lost(l, r.places); got != r.want {
			t.Errorf("%v: %d, want %d", r.places, got, r.want)
		}
	}
}

// Promise 12.1: needs and places by chance; each Need counts as often as its place stands there.
func TestLostByChance(t *testing.T) {
	r := rand.New(rand.NewSource(121))
	for range 5000 {
		l := make([]api.Need, r.Intn(7))
		for i := range l {
			l[i] = api.Need{Green: r.Int63n(99), Yellow: r.Int63n(300) - 9, Red: r.Int63n(300) - 9}
		}
		places := make([]int, r.Intn(12))
		for i := range places {
			places[i] = r.Intn(12) - 3
		}
		want := int64(0)
		for i, n := range l {
			often := int64(0)
			for _, p := range places {
				if p == i {
					often++
				}
			}
			want += often*n.Yellow + often*n.Red
		}
		if got := Lost(l, places); got != want {
			t.Fatalf("%v %v: %d, want %d", l, places, got, want)
		}
	}
}

// R4: what is handed in is not changed, what lies behind a list's end neither.
func TestLostChangesNothing(t *testing.T) {
	l, places := needs(30, 10, 40, 5, 50, 1), []int{2, 0, 9, 0, 1, 1}
	sameL, samePlaces := needs(30, 10, 40, 5, 50, 1), slices.Clone(places)
	if got := Lost(l[:2], places[:4]); got != 80 {
		t.Error(got)
	}
	if !reflect.DeepEqual(l, sameL) || !slices.Equal(places, samePlaces) {
		t.Error(l, places)
	}
}

// asks holds Cycle's answer against the chapter, by whole numbers of any size, and tells its error.
func asks(t *testing.T, lost int64, y api.Frac) (int64, bool, api.Errno) {
	t.Helper()
	c, ok, e := Cycle(lost, y)
	want := errorOf(lost, y)
	high := want == api.OK && y.Num >= y.Den
	switch {
	case e != want || ok != (want == api.OK && !high) || !ok && c != 0:
		t.Fatalf("lost %d, %v: %d, %v, %d; want error %d", lost, y, c, ok, e, want)
	case ok && (!enough(c, lost, y) || enough(c-1, lost, y)):
		t.Fatalf("lost %d, %v: %d is not the least", lost, y, c)
	}
	return c, ok, e
}

// enough tells whether c (1 - y) is not below 3 lost / 2 + 50, all of it told 2 Den times.
func enough(c, lost int64, y api.Frac) bool {
	left := new(big.Int).Mul(big.NewInt(2), big.NewInt(c))
	left.Mul(left, new(big.Int).Sub(big.NewInt(y.Den), big.NewInt(y.Num)))
	right := new(big.Int).Mul(big.NewInt(3*lost+100), big.NewInt(y.Den))
	return left.Cmp(right) >= 0
}

// errorOf tells the chapter's error: the quotient must fit in lowest terms.
func errorOf(lost int64, y api.Frac) api.Errno {
	if lost < 0 || lost > 600000 || y.Num < 0 || y.Den < 1 {
		return api.ErrArg
	}
	if new(big.Int).GCD(nil, nil, big.NewInt(y.Num), big.NewInt(y.Den)).Cmp(big.NewInt(1)) != 0 {
		return api.ErrArg
	}
	if y.Num >= y.Den {
		return api.OK
	}
	left := new(big.Rat).Sub(big.NewRat(1, 1), big.NewRat(y.Num, y.Den))
	q := new(big.Rat).Add(big.NewRat(3*lost, 2), big.NewRat(50, 1))
	q.Quo(q, left)
	if !q.Num().IsInt64() || !q.Denom().IsInt64() {
		return api.ErrOver
	}
	return api.OK
}

// Promise 12.2: the chapter's example and others whose cycle is reckoned by hand; a half decisecond is rounded up.
func TestCycle(t *testing.T) {
	for _, r := range []struct {
		lost int64
		y    api.Frac
		want int64
	}{
		{120, fr(1, 2), 460},
		{0, fr(0, 1), 50},
		{1, fr(0, 1), 52},
		{2, fr(0, 1), 53},
		{3, fr(0, 1), 55},
		{4, fr(0, 1), 56},
		{101, fr(2, 3), 605},
		{100, fr(2, 3), 600},
		{1, fr(1, 2), 103},
		{0, fr(1, 2), 100},
		{0, fr(1, 51), 51},
		{0, fr(1, 50), 52},
		{0, fr(1, 101), 51},
		{0, fr(49, 50), 2500},
		{160, fr(3, 4), 1160},
		{600000, fr(0, 1), 900050},
		{599999, fr(0, 1), 900049},
		{600000, fr(99, 100), 90005000},
		{0, fr(999999, 1000000), 50000000},
		{1, fr(999999, 1000000), 51500000},
	} {
		if c, ok, e := asks(t, r.lost, r.y); c != r.want || !ok || e != api.OK {
			t.Errorf("lost %d, %v: %d, %v, %d; want %d", r.lost, r.y, c, ok, e, r.want)
		}
	}
}

// wrongSums are below 0 or not right; some of the latter would come to 1 or more, or to a fair sum.
func wrongSums() []api.Frac {
	return []api.Frac{
		fr(0, 0), fr(1, 0), fr(-1, 0), fr(0, 2), fr(0, -1), fr(2, 4), fr(3, 9), fr(4, 2), fr(6, 6), fr(1, -2), fr(-1, -2), fr(-2, -4), fr(5, -4),
		fr(-1, 2), fr(-1, 1), fr(-7, 3), fr(-1, highest), fr(lowest, 1), fr(lowest, highest), fr(lowest, lowest), fr(1, lowest), fr(-1, lowest), fr(highest, lowest),
		fr(highest, highest), fr(highest-1, 2), fr(2, highest-1), fr(0, highest), fr(highest, 0), fr(lowest, 2),
	}
}

// Promise 12.2: what may not be is ErrArg, whichever of both it is, and if both are.
func TestCycleRefusesArguments(t *testing.T) {
	refused := func(lost int64, y api.Frac) {
		t.Helper()
		if c, ok, e := Cycle(lost, y); c != 0 || ok || e != api.ErrArg {
			t.Errorf("lost %d, %v: %d, %v, %d; want ErrArg", lost, y, c, ok, e)
		}
	}
	wrong := []int64{-1, -2, -600000, 600001, 600002, 1 << 32, -(1 << 32), 1<<32 + 5, highest, highest - 1, lowest, lowest + 1}
	for _, lost := range wrong {
		for _, y := range []api.Frac{fr(0, 1), fr(1, 2), fr(1, 1), fr(3, 2), fr(highest-1, highest), fr(highest, 1)} {
			refused(lost, y)
		}
	}
	for _, y := range wrongSums() {
		for _, lost := range append(wrong, 0, 1, 120, 599999, 600000) {
			refused(lost, y)
		}
	}
}

// Promise 12.2: a sum of 1 or more has no cycle, and that is no error; one just below 1 has a cycle, or one that does not fit.
func TestCycleOfFullSums(t *testing.T) {
	for _, y := range []api.Frac{fr(1, 1), fr(2, 1), fr(3, 2), fr(101, 100), fr(highest, 1), fr(highest, highest-1), fr(highest, 2), fr(1<<62+1, 1<<62)} {
		for _, lost := range []int64{0, 1, 5, 120, 599999, 600000} {
			if c, ok, e := asks(t, lost, y); c != 0 || ok || e != api.OK {
				t.Errorf("lost %d, %v: %d, %v, %d; want 0, false, OK", lost, y, c, ok, e)
			}
		}
	}
	for _, d := range []int64{2, 3, 7, 100, 1000003, 1 << 40} {
		if c, ok, e := asks(t, 0, fr(d-1, d)); c != 50*d || !ok || e != api.OK {
			t.Errorf("%d/%d: %d, %v, %d; want %d", d-1, d, c, ok, e, 50*d)
		}
	}
}

// Promise 12.2: sums of (d - 1) / d, whose cycle is d times what is asked for, up to the greatest d whose cycle fits, and beyond.
func TestCycleThatDoesNotFit(t *testing.T) {
	for _, r := range []struct{ lost, times int64 }{{0, 50}, {2, 53}, {100, 200}, {120, 230}, {600000, 900050}} {
		last := highest / r.times
		for _, d := range []int64{last - 1, last} {
			if c, ok, e := asks(t, r.lost, fr(d-1, d)); c != d*r.times || !ok || e != api.OK {
				t.Errorf("lost %d, by %d: %d, %v, %d", r.lost, d, c, ok, e)
			}
		}
		for _, d := range []int64{last + 1, last + 2, 2 * last, highest - 1, highest} {
			if c, ok, e := asks(t, r.lost, fr(d-1, d)); c != 0 || ok || e != api.ErrOver {
				t.Errorf("lost %d, by %d: %d, %v, %d; want ErrOver", r.lost, d, c, ok, e)
			}
		}
	}
}

// Promise 12.2: it is layer 2's quotient that must fit: one in lowest terms that does not is ErrOver, though the whole number above it would fit.
func TestCycleWhoseQuotientDoesNotFit(t *testing.T) {
	h := int64(highest/103 - 1)
	for _, r := range []struct {
		lost int64
		y    api.Frac
		c    int64
		e    api.Errno
	}{
		{1, fr(2*h-1, 2*h), 103 * h, api.OK}, // 103/2 times 2 h: the 2 goes out
		{1, fr(2*h-2, 2*h-1), 0, api.ErrOver},
		{1, fr(2*h, 2*h+1), 0, api.ErrOver},
		{0, fr(1, highest/50), 51, api.OK},
		{0, fr(1, highest/50*2-1), 51, api.OK}, // 2 of the 50 go out
		{0, fr(1, highest/50*2), 0, api.ErrOver},
		{0, fr(1, highest), 0, api.ErrOver},
		{0, fr(highest/2, highest), 0, api.ErrOver},
		{0, fr(1<<61-25, 1<<61), 1 << 62, api.OK},
		{0, fr(1<<62-25, 1<<62), 0, api.ErrOver}, // 2^63
		{600000, fr(1, highest/900050), 900051, api.OK},
	} {
		if c, ok, e := asks(t, r.lost, r.y); c != r.c || ok != (r.e == api.OK) || e != r.e {
			t.Errorf("lost %d, %v: %d, %v, %d; want %d, %d", r.lost, r.y, c, ok, e, r.c, r.e)
		}
	}
}

// edges: around the bounds of numbers and of products of the formula, and at the ends of the type.
func edges() []int64 {
	l := []int64{lowest, lowest + 1, highest - 1, highest}
	for _, n := range []int64{0, 2, 50, 100, 120, 6000, 600000, 1 << 31, 1 << 32, 1 << 62, -600000, highest / 50, highest / 25, highest / 100, highest / 900050} {
		l = append(l, n-1, n, n+1)
	}
	return l
}

// Promises 12.2 and 12.4: each edge with each other, as lost time and as both numbers of the sum.
func TestCycleAtEdges(t *testing.T) {
	met := map[api.Errno]int{}
	for _, lost := range edges() {
		for _, num := range edges() {
			for _, den := range edges() {
				_, _, e := asks(t, lost, fr(num, den))
				met[e]++
			}
		}
	}
	if len(met) != 3 || met[api.OK] < 1000 || met[api.ErrOver] < 1000 || met[api.ErrArg] < 1000 {
		t.Errorf("too few: %d", met)
	}
}

// Promise 12.4: the cycle that is told is the least, by the inequality itself; lost times and sums by chance, sums near 1 and great ones among them.
func TestCycleIsTheLeast(t *testing.T) {
	r := rand.New(rand.NewSource(124))
	tried := 0
	for range 50000 {
		den := 1 + r.Int63n(1<<(1+r.Intn(55)))
		num := r.Int63n(den)
		if r.Intn(4) == 0 {
			num = max(0, den-1-r.Int63n(9))
		}
		y, _ := frac.Of(num, den)
		lost := r.Int63n(600001)
		if r.Intn(2) == 0 {
			lost = r.Int63n(500)
		}
		if _, ok, _ := asks(t, lost, y); ok {
			tried++
		}
	}
	if tried < 20000 {
		t.Error("too few:", tried)
	}
}

// Promise 12.4: every lost time of up to 300 with every sum of small numbers: cycles are counted on from 0 to the first that is enough.
func TestCycleBySmallNumbers(t *testing.T) {
	for lost := range int64(301) {
		for den := int64(1); den < 12; den++ {
			for num := range den {
				y := fr(num, den)
				if !frac.Right(y) {
					continue
				}
				want := int64(0)
				for 2*want*(den-num) < (3*lost+100)*den {
					want++
				}
				if c, ok, e := Cycle(lost, y); c != want || !ok || e != api.OK {
					t.Fatalf("lost %d, %v: %d, %v, %d; want %d", lost, y, c, ok, e, want)
				}
			}
		}
	}
}

// Promise 12.4: a greater lost time, or a greater sum, has no shorter cycle.
func TestCycleGrows(t *testing.T) {
	before := int64(0)
	for lost := range int64(2000) {
		c, _, _ := asks(t, lost, fr(7, 13))
		if c < before {
			t.Fatal(lost, c, before)
		}
		before = c
	}
	before = 0
	for num := range int64(997) {
		y, _ := frac.Of(num, 997)
		c, _, _ := asks(t, 77, y)
		if c < before {
			t.Fatal(num, c, before)
		}
		before = c
	}
}

// Promises 12.1 to 12.3: from a text on; phases a, b and d are on the critical way, each with yellow 35 and red 16, and c, which loses more, is not.
func TestOfNetwork(t *testing.T) {
	text := `cycle 300 to 900 by 70; peak 1/1;
node x {
  head a volume 450 flow 1800 use 1/1 speed 1500 grade 0 width 1800 length 600 green 70;
  head b volume 360 flow 1800 use 1/1 speed 1500 grade 0 width 1800 length 600 green 70;
  head c volume 720 flow 1800 use 1/1 speed 900 grade -50 width 2800 length 600 green 70;
  head d volume 180 flow 1800 use 1/1 speed 1500 grade 0 width 1800 length 600 green 70;
  phase a: a; phase b: b; phase c: c; phase d: d;
  group { ring a, b; ring c; }
  group { ring d; }
}`
	n, e, _ := net.Parse([]byte(text))
	if e != api.OK {
		t.Fatal(e)
	}
	l, e := need.Of(n, 0)
	if e != api.OK {
		t.Fatal(e)
	}
	var ratios []api.Frac
	for _, one := range l {
		ratios = append(ratios, one.Ratio)
	}
	way, e := crit.Sum(n.Nodes[0], ratios)
	if e != api.OK || way.Sum != fr(11, 20) {
		t.Fatal(way, e)
	}
	lost := Lost(l, crit.Rank(n.Nodes[0], ratios))
	if lost != 153 {
		t.Fatal(lost)
	}
	c, ok, e := asks(t, lost, way.Sum)
	if c != 622 || !ok || e != api.OK {
		t.Fatal(c, ok, e)
	}
	if got, ok := Allowed(n, c); got != 650 || !ok {
		t.Fatal(got, ok)
	}
	if got := Count(n); got != 9 {
		t.Fatal(got)
	}
}
