package clear

import (
	"math"
	"math/big"
	"testing"

	"carrefour/api"
)

const (
	least    = math.MinInt64
	greatest = math.MaxInt64
)

// call is one of the three: how many numbers it takes, within which bounds, and which quotient of deciseconds the chapter has for it.
type call struct {
	name     string
	ask      func(l []int64) (int64, api.Errno)
	low, top []int64
	ahead    int64 // whole deciseconds beside the quotient
	quotient func(l []int64) *big.Rat
}

func number(n int64) *big.Rat { return big.NewRat(n, 1) }

func by(a, b *big.Rat) *big.Rat { return new(big.Rat).Quo(a, b) }

func yellow() call {
	return call{
		"Yellow", func(l []int64) (int64, api.Errno) { return Yellow(l[0], l[1]) },
		[]int64{1, -200}, []int64{10000, 200}, 10,
		func(l []int64) *big.Rat {
			slow := by(number(1962*l[1]), number(1000))
			return by(number(10*l[0]), slow.Add(slow, number(610)))
		},
	}
}

func red() call {
	return call{
		"Red", func(l []int64) (int64, api.Errno) { return Red(l[0], l[1], l[2]) },
		[]int64{0, 0, 1}, []int64{100000, 100000, 10000}, 0,
		func(l []int64) *big.Rat { return by(number(10*(l[0]+l[1])), number(l[2])) },
	}
}

func flash() call {
	return call{
		"Flash", func(l []int64) (int64, api.Errno) { return Flash(l[0], l[1]) },
		[]int64{1, 1}, []int64{100000, 10000}, 0,
		func(l []int64) *big.Rat { return by(number(10*l[0]), number(l[1])) },
	}
}

// may tells whether the chapter lets these numbers be.
func (c call) may(l []int64) bool {
	for i, n := range l {
		if n < c.low[i] || n > c.top[i] {
			return false
		}
	}
	return true
}

// hold asks the call and holds the answer against the chapter: it is refused, or enough, and a decisecond less is not.
func (c call) hold(t *testing.T, l []int64) {
	t.Helper()
	got, e := c.ask(l)
	if !c.may(l) {
		if got != 0 || e != api.ErrArg {
			t.Fatalf("%s%v: %d, error %d; want 0, error %d", c.name, l, got, e, api.ErrArg)
		}
		return
	}
	q := c.quotient(l)
	if e != api.OK || number(got-c.ahead).Cmp(q) < 0 || number(got-c.ahead-1).Cmp(q) >= 0 {
		t.Fatalf("%s%v: %d, error %d; want the least that is not below %d and %s", c.name, l, got, e, c.ahead, q)
	}
}

// each goes through all rows of numbers that take one of each list.
func each(lists [][]int64, do func(l []int64)) {
	row := make([]int64, len(lists))
	var from func(i int)
	from = func(i int) {
		if i == len(lists) {
			do(row)
			return
		}
		for _, n := range lists[i] {
			row[i] = n
			from(i + 1)
		}
	}
	from(0)
}

// edges: around both bounds, their opposites and 0, at the ends of the type, and numbers whose low 32 bits alone would be within the bounds.
func edges(low, top int64) []int64 {
	l := []int64{least, least + 1, greatest - 1, greatest, 1<<32 + 1, -(1 << 32) + 1, 1<<63 - 1<<32 + 1}
	for _, n := range []int64{low, top, -low, -top, 0} {
		l = append(l, n-1, n, n+1)
	}
	return l
}

// inside: numbers within the bounds, the ends and what is beside them among them.
func inside(low, top int64) []int64 {
	l := []int64{low, low + 1, low + 2, low + 3, top - 2, top - 1, top}
	for n := low + 7; n < top-7; n += (top-low)/23 + 1 {
		l = append(l, n)
	}
	return l
}

// holdAll holds each call with all rows of the numbers that are told for its bounds.
func holdAll(t *testing.T, numbers func(low, top int64) []int64) {
	t.Helper()
	for _, c := range []call{yellow(), red(), flash()} {
		lists := [][]int64{}
		for i := range c.low {
			lists = append(lists, numbers(c.low[i], c.top[i]))
		}
		each(lists, func(l []int64) { c.hold(t, l) })
	}
}

// row is one call and its answer.
type row struct {
	c    call
	args []int64
	want int64
}

func holdRows(t *testing.T, l []row) {
	t.Helper()
	for _, r := range l {
		if got, e := r.c.ask(r.args); got != r.want || e != api.OK {
			t.Errorf("%s%v: %d, error %d; want %d", r.c.name, r.args, got, e, r.want)
		}
		r.c.hold(t, r.args)
	}
}

// Promises 8.1 and 8.2: the chapter's examples, and the whole's.
func TestExamples(t *testing.T) {
	holdRows(t, []row{
		{yellow(), []int64{1500, 0}, 35},
		{yellow(), []int64{1500, -200}, 79},
		{red(), []int64{1800, 600, 1500}, 16},
		{flash(), []int64{1500, 120}, 125},
	})
}

// Promises 8.1 to 8.3: the bounds that the chapter names are those of api.
func TestLimits(t *testing.T) {
	if api.MaxSpeed != 10000 || api.MaxGrade != 200 || api.MaxSize != 100000 {
		t.Fatal("the tests' bounds are not api's")
	}
}

// Promise 8.1: the least and the greatest speed on the steepest grades.
func TestSteepest(t *testing.T) {
	holdRows(t, []row{
		{yellow(), []int64{1, -200}, 11},
		{yellow(), []int64{1, 0}, 11},
		{yellow(), []int64{1, 200}, 11},
		{yellow(), []int64{10000, -200}, 470},
		{yellow(), []int64{10000, -199}, 10 + 456},
		{yellow(), []int64{10000, 0}, 174},
		{yellow(), []int64{10000, 199}, 110},
		{yellow(), []int64{10000, 200}, 110},
	})
}

// Promise 8.1: quotients that are whole, just below, and just above a whole number.
func TestWholeYellow(t *testing.T) {
	for _, x := range []struct{ speed, grade, want int64 }{
		{61, 0, 11}, {610, 0, 20}, {6100, 0, 110}, {9760, 0, 170},
		{544, -200, 35}, {2176, -200, 110}, {2506, 200, 35}, {5012, 200, 60},
		{2069, -100, 60}, {4031, 100, 60},
	} {
		if !yellow().quotient([]int64{x.speed, x.grade}).IsInt() {
			t.Fatalf("%v: the quotient is not whole", x)
		}
		holdRows(t, []row{
			{yellow(), []int64{x.speed - 1, x.grade}, x.want},
			{yellow(), []int64{x.speed, x.grade}, x.want},
			{yellow(), []int64{x.speed + 1, x.grade}, x.want + 1},
		})
	}
}

// Promise 8.1: the divisor is not rounded by itself: of each two, the first one would be a decisecond more with a divisor rounded down, the second one a decisecond less with one rounded up.
func TestRestOfGrade(t *testing.T) {
	holdRows(t, []row{
		{yellow(), []int64{284, -150}, 19}, {yellow(), []int64{158, -150}, 16},
		{yellow(), []int64{409, -13}, 17}, {yellow(), []int64{117, -13}, 13},
		{yellow(), []int64{3405, -1}, 66}, {yellow(), []int64{365, -1}, 17},
		{yellow(), []int64{367, 1}, 16}, {yellow(), []int64{306, 1}, 16},
		{yellow(), []int64{699, 13}, 21}, {yellow(), []int64{318, 13}, 16},
		{yellow(), []int64{633, 150}, 17}, {yellow(), []int64{181, 150}, 13},
	})
}

// Promise 8.2: nothing to go, the least and the greatest way and speed.
func TestRed(t *testing.T) {
	holdRows(t, []row{
		{red(), []int64{0, 0, 1}, 0},
		{red(), []int64{0, 0, 5}, 0},
		{red(), []int64{0, 0, 10000}, 0},
		{red(), []int64{1, 0, 10000}, 1},
		{red(), []int64{0, 1, 10000}, 1},
		{red(), []int64{1, 0, 1}, 10},
		{red(), []int64{0, 1, 1}, 10},
		{red(), []int64{100000, 100000, 1}, 2000000},
		{red(), []int64{100000, 0, 1}, 1000000},
		{red(), []int64{0, 100000, 1}, 1000000},
		{red(), []int64{100000, 100000, 10000}, 200},
		{red(), []int64{99999, 100000, 10000}, 200},
		{red(), []int64{100000, 99001, 10000}, 200},
		{red(), []int64{100000, 99000, 10000}, 199},
	})
}

// Promise 8.2: quotients that are whole, just below, and just above a whole number.
func TestWholeRedAndFlash(t *testing.T) {
	for _, x := range []struct{ long, speed, want int64 }{
		{1500, 1500, 10}, {150, 1500, 1}, {1000, 10000, 1}, {99000, 10000, 99}, {7, 70, 1}, {49, 35, 14}, {3, 30, 1}, {333, 45, 74},
	} {
		holdRows(t, []row{
			{flash(), []int64{x.long, x.speed}, x.want},
			{red(), []int64{x.long, 0, x.speed}, x.want},
			{red(), []int64{0, x.long, x.speed}, x.want},
			{red(), []int64{x.long / 2, x.long - x.long/2, x.speed}, x.want},
		})
		for _, d := range []int64{-1, 1} {
			flash().hold(t, []int64{x.long + d, x.speed})
			flash().hold(t, []int64{x.long, x.speed + d})
			red().hold(t, []int64{x.long + d, 0, x.speed})
			red().hold(t, []int64{1, x.long - 1 + d, x.speed})
			red().hold(t, []int64{x.long, 0, x.speed + d})
		}
	}
	holdRows(t, []row{
		{red(), []int64{750, 749, 1500}, 10},
		{red(), []int64{750, 751, 1500}, 11},
		{red(), []int64{1500, 1, 1500}, 11},
		{red(), []int64{1, 1500, 1500}, 11},
		{red(), []int64{1, 1498, 1500}, 10},
		{flash(), []int64{1200, 120}, 100},
		{flash(), []int64{1201, 120}, 101},
		{flash(), []int64{1199, 120}, 100},
		{flash(), []int64{1, 1}, 10},
		{flash(), []int64{1, 10000}, 1},
		{flash(), []int64{100000, 1}, 1000000},
		{flash(), []int64{100000, 10000}, 100},
		{flash(), []int64{99999, 10000}, 100},
		{flash(), []int64{99001, 10000}, 100},
	})
}

// Promises 8.1 and 8.2, rules R1 and R2: every argument at, below and above its bounds, 0 and the ends of its type, with each such one of the others: one wrong, several wrong, none.
func TestEdges(t *testing.T) { holdAll(t, edges) }

// Promises 8.1 and 8.2: what is refused, word by word of the chapter.
func TestRefused(t *testing.T) {
	for _, x := range []struct {
		c    call
		args []int64
	}{
		{yellow(), []int64{0, 0}}, {yellow(), []int64{10001, 0}}, {yellow(), []int64{1500, -201}}, {yellow(), []int64{1500, 201}},
		{yellow(), []int64{-1500, 0}}, {yellow(), []int64{0, 201}}, {yellow(), []int64{least, greatest}}, {yellow(), []int64{greatest, least}},
		{yellow(), []int64{1500, -311}}, // the divisor would be below 0
		{red(), []int64{-1, 0, 5}}, {red(), []int64{0, -1, 5}}, {red(), []int64{0, 0, 0}}, {red(), []int64{0, 0, -1}},
		{red(), []int64{100001, 0, 5}}, {red(), []int64{0, 100001, 5}}, {red(), []int64{0, 0, 10001}},
		{red(), []int64{-1, 1, 5}}, {red(), []int64{1, -1, 5}}, {red(), []int64{-1, -1, -1}}, {red(), []int64{greatest, 1, 5}},
		{red(), []int64{least, least, 5}}, {red(), []int64{greatest, least, 0}},
		{flash(), []int64{0, 5}}, {flash(), []int64{-1, 5}}, {flash(), []int64{100001, 5}}, {flash(), []int64{5, 0}}, {flash(), []int64{5, -1}},
		{flash(), []int64{5, 10001}}, {flash(), []int64{0, 0}}, {flash(), []int64{-5, -5}}, {flash(), []int64{least, -1}},
	} {
		if got, e := x.c.ask(x.args); got != 0 || e != api.ErrArg {
			t.Errorf("%s%v: %d, error %d; want 0, error %d", x.c.name, x.args, got, e, api.ErrArg)
		}
	}
}

// Promises 8.1 to 8.3: numbers all over the bounds, each answer enough and no greater than it must be.
func TestInside(t *testing.T) { holdAll(t, inside) }

// Promises 8.1 and 8.3: every yellow there is: enough, a decisecond less is not; who is faster needs no less, uphill no more.
func TestEveryYellow(t *testing.T) {
	slower := [401]int64{}
	for speed := int64(1); speed <= 10000; speed++ {
		downhill := int64(greatest)
		for grade := int64(-200); grade <= 200; grade++ {
			y, e := Yellow(speed, grade)
			// Held against the formula without a quotient: 1000 times the divisor is 610000 + 1962 grade.
			need, divisor := 10000*speed, 610000+1962*grade
			if e != api.OK || (y-10)*divisor < need || (y-11)*divisor >= need {
				t.Fatalf("Yellow(%d, %d): %d, error %d", speed, grade, y, e)
			}
			if y < slower[grade+200] || y > downhill {
				t.Fatalf("Yellow(%d, %d): %d; slower %d, a step downhill %d", speed, grade, y, slower[grade+200], downhill)
			}
			slower[grade+200], downhill = y, y
		}
	}
}

// Promises 8.2 and 8.3: every speed, on ways of some lengths: enough, a decisecond less is not; who is faster needs no more red, and no more flashing.
func TestEverySpeed(t *testing.T) {
	for _, long := range []int64{0, 1, 2, 9, 10, 11, 999, 1000, 1001, 2400, 33333, 99999, 100000, 100001, 199999, 200000} {
		width := min(long, api.MaxSize)
		length := long - width
		slower, paced := int64(greatest), int64(greatest)
		for speed := int64(1); speed <= 10000; speed++ {
			r, e := Red(width, length, speed)
			if e != api.OK || r*speed < 10*long || (r-1)*speed >= 10*long || r > slower {
				t.Fatalf("Red(%d, %d, %d): %d, error %d; slower %d", width, length, speed, r, e, slower)
			}
			if other, _ := Red(length, width, speed); other != r {
				t.Fatalf("Red(%d, %d, %d): %d; the other way round %d", length, width, speed, other, r)
			}
			slower = r
			if long < 1 || long > api.MaxSize {
				continue
			}
			f, e := Flash(long, speed)
			if e != api.OK || f != r || f > paced {
				t.Fatalf("Flash(%d, %d): %d, error %d; slower %d, as red %d", long, speed, f, e, paced, r)
			}
			paced = f
		}
	}
}

// Promises 8.2 and 8.3: every length, at some speeds: enough, a decisecond less is not; a longer way needs no less.
func TestEveryLength(t *testing.T) {
	for _, speed := range []int64{1, 2, 3, 7, 10, 120, 1389, 9999, 10000} {
		shorter, wide, flashed := int64(0), int64(0), int64(0)
		for long := int64(0); long <= 100000; long++ {
			r, e := Red(600, long, speed)
			if way := 10 * (600 + long); e != api.OK || r*speed < way || (r-1)*speed >= way || r < shorter {
				t.Fatalf("Red(600, %d, %d): %d, error %d; shorter %d", long, speed, r, e, shorter)
			}
			w, e := Red(long, 0, speed)
			if way := 10 * long; e != api.OK || w*speed < way || (w-1)*speed >= way || w < wide {
				t.Fatalf("Red(%d, 0, %d): %d, error %d; less wide %d", long, speed, w, e, wide)
			}
			shorter, wide = r, w
			if long < 1 {
				continue
			}
			f, e := Flash(long, speed)
			if way := 10 * long; e != api.OK || f*speed < way || (f-1)*speed >= way || f < flashed {
				t.Fatalf("Flash(%d, %d): %d, error %d; shorter %d", long, speed, f, e, flashed)
			}
			flashed = f
		}
	}
}

// Rule R5: an answer does not hang on what was asked ahead of it, a refusal among that.
func TestAskedAgain(t *testing.T) {
	for _, c := range []call{yellow(), red(), flash()} {
		right := []int64{700, 90, 800}[:len(c.low)]
		first, e := c.ask(right)
		if e != api.OK {
			t.Fatalf("%s%v: error %d", c.name, right, e)
		}
		c.hold(t, make([]int64, len(c.low)))
		c.hold(t, []int64{greatest, greatest, greatest}[:len(c.low)])
		c.hold(t, c.top)
		if again, e := c.ask(right); again != first || e != api.OK {
			t.Errorf("%s%v: %d, then %d, error %d", c.name, right, first, again, e)
		}
	}
}

// Any many numbers are held against their bounds: none, and one that is wrong at each place of a row.
func TestWithin(t *testing.T) {
	if !within() {
		t.Error("no number is out of bounds")
	}
	for many := 1; many <= 5; many++ {
		l := make([]bound, many)
		for i := range l {
			l[i] = bound{int64(i), int64(i), int64(i)}
		}
		if !within(l...) {
			t.Errorf("%v: refused", l)
		}
		for i := range l {
			for _, n := range []int64{least, int64(i) - 1, int64(i) + 1, greatest} {
				l[i].number = n
				if within(l...) {
					t.Errorf("%v: not refused", l)
				}
			}
			l[i].number = int64(i)
		}
	}
}
