package circle

import (
	"math"
	"math/big"
	"slices"
	"testing"

	"carrefour/api"
)

const (
	least    = math.MinInt64
	greatest = math.MaxInt64
)

type arcs = []api.Arc

func arc(at, n int64) api.Arc { return api.Arc{At: at, Len: n} }

// same holds arcs against those that are right. (No arcs may be nil or empty.)
func same(t *testing.T, got, want arcs, call string, args ...any) {
	t.Helper()
	if !slices.Equal(got, want) {
		t.Fatalf("%s%v: %v; want %v", call, args, got, want)
	}
}

func sameNumber(t *testing.T, got, want int64, call string, args ...any) {
	t.Helper()
	if got != want {
		t.Fatalf("%s%v: %d; want %d", call, args, got, want)
	}
}

// modulo is math/big's, for any number.
func modulo(n *big.Int, c int64) int64 {
	return new(big.Int).Mod(n, big.NewInt(c)).Int64()
}

// ticks counts arcs tick by tick, by their words alone: which ticks of the cycle they have.
func ticks(c int64, l ...api.Arc) []bool {
	out := make([]bool, c)
	for _, a := range l {
		for i := int64(0); i < a.Len && i < c; i++ {
			out[modulo(new(big.Int).Add(big.NewInt(a.At), big.NewInt(i)), c)] = true
		}
	}
	return out
}

func count(has []bool) int64 {
	n := int64(0)
	for _, b := range has {
		if b {
			n++
		}
	}
	return n
}

// turned tells each tick by later.
func turned(has []bool, by int64) []bool {
	c := int64(len(has))
	out := make([]bool, c)
	for i, b := range has {
		out[modulo(new(big.Int).Add(big.NewInt(int64(i)), big.NewInt(by)), c)] = b
	}
	return out
}

// inForm tells the arcs in form of ticks, by going over the cycle once: an arc begins at each tick that has none ahead of it.
func inForm(has []bool) arcs {
	c := int64(len(has))
	switch count(has) {
	case 0:
		return nil
	case c:
		return arcs{arc(0, c)}
	}
	out := arcs{}
	for at := range c {
		if !has[at] || has[(at+c-1)%c] {
			continue
		}
		n := int64(1)
		for has[(at+n)%c] {
			n++
		}
		out = append(out, arc(at, n))
	}
	return out
}

// standsInForm asks the chapter's words of arcs: it is told apart from inForm, to hold that against it.
func standsInForm(c int64, l arcs) bool {
	if slices.Equal(l, arcs{arc(0, c)}) {
		return true
	}
	for i, a := range l {
		if a.At < 0 || a.At > c-1 || a.Len < 1 || a.Len > c-1 || i > 0 && l[i-1].At >= a.At {
			return false
		}
		next := l[(i+1)%len(l)].At
		if i == len(l)-1 {
			next += c
		}
		if a.At+a.Len >= next {
			return false
		}
	}
	return true
}

func widestOf(l arcs) api.Arc {
	widest := api.Arc{}
	for _, a := range l {
		if a.Len > widest.Len || a.Len == widest.Len && a.At < widest.At {
			widest = a
		}
	}
	return widest
}

// gapOf steps from the end of a on until it comes to where b begins.
func gapOf(c int64, a, b api.Arc) int64 {
	x, y := inForm(ticks(c, a)), inForm(ticks(c, b))
	if len(x) == 0 || len(y) == 0 || x[0].Len == c || y[0].Len == c {
		return 0
	}
	n := int64(0)
	for (x[0].At+x[0].Len+n)%c != y[0].At {
		n++
	}
	return n
}

// some are all arcs whose At and Len lie in the cycle or around it.
func some(c int64) arcs {
	out := arcs{}
	for at := -c - 1; at <= 2*c+1; at++ {
		for n := int64(-1); n <= c+2; n++ {
			out = append(out, arc(at, n))
		}
	}
	return out
}

// far are arcs with numbers at the ends of int64, and a few near ones.
func far(c int64) arcs {
	ats := []int64{least, least + 1, least + c, -c - 1, -1, 0, 1, c - 1, c, c + 1, greatest - c, greatest - 1, greatest}
	lens := []int64{least, least + 1, -1, 0, 1, 2, c / 2, c - 1, c, c + 1, 2*c + 1, greatest - 1, greatest}
	out := arcs{}
	for _, at := range ats {
		for _, n := range lens {
			out = append(out, arc(at, n))
		}
	}
	return out
}

// noCycles are those that there are none of.
func noCycles() []int64 {
	return []int64{least, least + 1, -api.MaxTime, -1, 0, api.MaxTime + 1, 2 * api.MaxTime, 1 << 32, greatest - 1, greatest}
}

// subsets are all sets of a cycle's ticks.
func subsets(c int64) [][]bool {
	out := [][]bool{}
	for bits := range 1 << c {
		has := make([]bool, c)
		for i := range c {
			has[i] = bits>>i&1 == 1
		}
		out = append(out, has)
	}
	return out
}

// untidy tells ticks as arcs that are not in form: tick by tick, the last one first, each arc going on over some of the ticks behind it that are there, too, from other cycles on, with arcs of no ticks between.
func untidy(has []bool) arcs {
	c := int64(len(has))
	out := arcs{arc(3, 0)}
	for at := c - 1; at >= 0; at-- {
		if !has[at] {
			continue
		}
		n := int64(1)
		for n <= at%3 && has[(at+n)%c] {
			n++
		}
		out = append(out, arc(at+(at%5-2)*c, n), arc(at, -n))
	}
	return out
}

// Promise 3.1, and what the chapter's first words say of a cycle that there is none of, for all of the promises.
func TestNoCycle(t *testing.T) {
	for _, c := range noCycles() {
		l := arcs{arc(0, 1), arc(2, 3), arc(least, greatest), arc(0, c), arc(-1, 6000)}
		for _, a := range l {
			if got := Norm(c, a); got != (api.Arc{}) {
				t.Errorf("Norm(%d, %v): %v", c, a, got)
			}
			for _, tick := range []int64{least, -1, 0, 1, 2, c, greatest} {
				if In(c, a, tick) {
					t.Errorf("In(%d, %v, %d)", c, a, tick)
				}
			}
			for _, b := range l {
				sameNumber(t, Gap(c, a, b), 0, "Gap", c, a, b)
			}
		}
		same(t, Set(c), nil, "Set", c)
		same(t, Set(c, l...), nil, "Set", c, l)
		sameNumber(t, Total(c, l), 0, "Total", c, l)
		same(t, Meet(c, l, l), nil, "Meet", c, l, l)
		same(t, Less(c, l, nil), nil, "Less", c, l)
		same(t, Less(c, nil, l), nil, "Less", c, l)
		same(t, Rest(c, nil), nil, "Rest", c)
		same(t, Rest(c, l), nil, "Rest", c, l)
		same(t, Turn(c, l, 1), nil, "Turn", c, l)
		same(t, Turn(c, l, least), nil, "Turn", c, l)
		same(t, Turn(c, l, greatest), nil, "Turn", c, l)
		if got := Widest(c, l); got != (api.Arc{}) {
			t.Errorf("Widest(%d): %v", c, got)
		}
	}
}

// Promise 3.1.
func TestNorm(t *testing.T) {
	for _, r := range []struct {
		c       int64
		a, want api.Arc
	}{
		{10, arc(8, 4), arc(8, 4)},
		{10, arc(-2, 4), arc(8, 4)},
		{10, arc(18, 4), arc(8, 4)},
		{10, arc(10, 1), arc(0, 1)},
		{10, arc(-10, 9), arc(0, 9)},
		{10, arc(3, 10), arc(0, 10)},
		{10, arc(3, 11), arc(0, 10)},
		{10, arc(3, greatest), arc(0, 10)},
		{10, arc(3, 0), arc(0, 0)},
		{10, arc(3, -1), arc(0, 0)},
		{10, arc(3, least), arc(0, 0)},
		{10, arc(least, 3), arc(2, 3)},
		{10, arc(greatest, 3), arc(7, 3)},
		{10, arc(greatest, greatest), arc(0, 10)},
		{10, arc(least, least), arc(0, 0)},
		{1, arc(0, 1), arc(0, 1)},
		{1, arc(-7, 1), arc(0, 1)},
		{1, arc(5, 0), arc(0, 0)},
		{2, arc(-1, 1), arc(1, 1)},
		{api.MaxTime, arc(-1, api.MaxTime-1), arc(api.MaxTime-1, api.MaxTime-1)},
		{api.MaxTime, arc(7, api.MaxTime), arc(0, api.MaxTime)},
	} {
		if got := Norm(r.c, r.a); got != r.want {
			t.Errorf("Norm(%d, %v): %v; want %v", r.c, r.a, got, r.want)
		}
	}
}

// Promise 3.1: all that is asked of one arc, against a count.
func TestOneArc(t *testing.T) {
	for c := int64(1); c <= 9; c++ {
		for _, a := range append(some(c), far(c)...) {
			has := ticks(c, a)
			want := inForm(has)
			same(t, Set(c, a), want, "Set", c, a)
			sameNumber(t, Total(c, arcs{a}), count(has), "Total", c, a)
			one := api.Arc{}
			if len(want) > 0 {
				one = want[0]
			}
			if got := Norm(c, a); got != one {
				t.Fatalf("Norm(%d, %v): %v; want %v", c, a, got, one)
			}
			for _, at := range []int64{least, least + 1, greatest - 1, greatest} {
				if got := In(c, a, at); got != has[modulo(big.NewInt(at), c)] {
					t.Fatalf("In(%d, %v, %d): %v", c, a, at, got)
				}
			}
			for at := -2 * c; at <= 3*c; at++ {
				if got := In(c, a, at); got != has[modulo(big.NewInt(at), c)] {
					t.Fatalf("In(%d, %v, %d): %v", c, a, at, got)
				}
			}
		}
	}
}

// Promise 3.1: the chapter's examples, and edges that it names.
func TestSetExamples(t *testing.T) {
	for _, r := range []struct {
		c       int64
		l, want arcs
	}{
		{10, arcs{arc(8, 4), arc(1, 3)}, arcs{arc(8, 6)}},
		{10, arcs{arc(1, 3), arc(8, 4)}, arcs{arc(8, 6)}},
		{10, nil, nil},
		{10, arcs{}, nil},
		{10, arcs{arc(4, 0), arc(7, -3), arc(least, least)}, nil},
		{10, arcs{arc(2, 3), arc(5, 1)}, arcs{arc(2, 4)}},                                     // they touch
		{10, arcs{arc(2, 3), arc(6, 1)}, arcs{arc(2, 3), arc(6, 1)}},                          // a tick lies between
		{10, arcs{arc(6, 1), arc(2, 3)}, arcs{arc(2, 3), arc(6, 1)}},                          // in any order
		{10, arcs{arc(2, 6), arc(3, 2)}, arcs{arc(2, 6)}},                                     // one lies in the other
		{10, arcs{arc(3, 2), arc(2, 6)}, arcs{arc(2, 6)}},                                     //
		{10, arcs{arc(9, 1), arc(0, 1)}, arcs{arc(9, 2)}},                                     // they touch at the cycle's end
		{10, arcs{arc(0, 2), arc(5, 1), arc(9, 1)}, arcs{arc(5, 1), arc(9, 3)}},               //
		{10, arcs{arc(0, 2), arc(8, 1)}, arcs{arc(0, 2), arc(8, 1)}},                          // tick 9 lies between
		{10, arcs{arc(1, 2), arc(9, 1)}, arcs{arc(1, 2), arc(9, 1)}},                          // tick 0 lies between
		{10, arcs{arc(0, 9), arc(9, 1)}, arcs{arc(0, 10)}},                                    // all
		{10, arcs{arc(5, 5), arc(0, 5)}, arcs{arc(0, 10)}},                                    //
		{10, arcs{arc(7, 9), arc(5, 2)}, arcs{arc(0, 10)}},                                    // all, over the end
		{10, arcs{arc(7, 8), arc(4, 3)}, arcs{arc(0, 10)}},                                    //
		{10, arcs{arc(7, 9)}, arcs{arc(7, 9)}},                                                // all but one
		{10, arcs{arc(1, 9)}, arcs{arc(1, 9)}},                                                //
		{10, arcs{arc(0, 9)}, arcs{arc(0, 9)}},                                                //
		{10, arcs{arc(4, 1), arc(4, 10)}, arcs{arc(0, 10)}},                                   //
		{10, arcs{arc(least, 3), arc(greatest, 3)}, arcs{arc(2, 3), arc(7, 3)}},               //
		{10, arcs{arc(least, 3), arc(greatest, 5)}, arcs{arc(7, 8)}},                          //
		{10, arcs{arc(greatest, greatest), arc(1, 1)}, arcs{arc(0, 10)}},                      //
		{1, arcs{arc(-5, 1)}, arcs{arc(0, 1)}},                                                //
		{1, arcs{arc(0, 1), arc(1, 1)}, arcs{arc(0, 1)}},                                      //
		{2, arcs{arc(1, 1)}, arcs{arc(1, 1)}},                                                 //
		{2, arcs{arc(1, 1), arc(2, 1)}, arcs{arc(0, 2)}},                                      //
		{api.MaxTime, arcs{arc(-1, 2), arc(3000, 1)}, arcs{arc(3000, 1), arc(5999, 2)}},       //
		{api.MaxTime, arcs{arc(3000, 3000), arc(6000, 3000)}, arcs{arc(0, 6000)}},             //
		{api.MaxTime, arcs{arc(2, 5999), arc(2, 5998), arc(greatest, 1)}, arcs{arc(2, 5999)}}, //
	} {
		same(t, Set(r.c, r.l...), r.want, "Set", r.c, r.l)
		sameNumber(t, Total(r.c, r.l), count(ticks(r.c, r.l...)), "Total", r.c, r.l)
	}
}

// Promise 3.1: any many arcs, in any order.
func TestManyArcs(t *testing.T) {
	every := arcs{}
	for at := int64(api.MaxTime - 2); at >= 0; at -= 2 {
		every = append(every, arc(at-api.MaxTime, 1), arc(at, 1), arc(at+api.MaxTime, 1))
	}
	want := arcs{}
	for at := int64(0); at < api.MaxTime; at += 2 {
		want = append(want, arc(at, 1))
	}
	same(t, Set(api.MaxTime, every...), want, "Set")
	sameNumber(t, Total(api.MaxTime, every), api.MaxTime/2, "Total")
	all := append(slices.Clone(every), Turn(api.MaxTime, every, 1)...)
	same(t, Set(api.MaxTime, all...), arcs{arc(0, api.MaxTime)}, "Set")
	same(t, Meet(api.MaxTime, every, Rest(api.MaxTime, every)), nil, "Meet")
}

// Promises 3.1 and 3.3: all rows of three arcs of small cycles, against a count.
func TestThreeArcs(t *testing.T) {
	for c := int64(1); c <= 5; c++ {
		few := arcs{arc(-1, -1), arc(c, c)}
		for at := -c; at < c; at += 1 + c/3 {
			for n := int64(0); n < c; n++ {
				few = append(few, arc(at, n))
			}
		}
		for _, x := range few {
			for _, y := range few {
				for _, z := range few {
					l := arcs{x, y, z}
					has := ticks(c, l...)
					want := inForm(has)
					same(t, Set(c, x, y, z), want, "Set", c, l)
					sameNumber(t, Total(c, l), count(has), "Total", c, l)
					if got := Widest(c, l); got != widestOf(want) {
						t.Fatalf("Widest(%d, %v): %v; want %v", c, l, got, widestOf(want))
					}
				}
			}
		}
	}
}

// Promise 3.2: the chapter's example, and edges.
func TestMeetLessRestExamples(t *testing.T) {
	ten := arcs{arc(8, 4), arc(1, 3)}
	same(t, Rest(10, ten), arcs{arc(4, 4)}, "Rest", ten)
	same(t, Rest(10, nil), arcs{arc(0, 10)}, "Rest")
	same(t, Rest(10, arcs{arc(3, 0)}), arcs{arc(0, 10)}, "Rest")
	same(t, Rest(10, arcs{arc(3, 10)}), nil, "Rest")
	same(t, Rest(10, arcs{arc(3, 4)}), arcs{arc(7, 6)}, "Rest")
	same(t, Rest(10, arcs{arc(0, 4)}), arcs{arc(4, 6)}, "Rest")
	same(t, Rest(10, arcs{arc(6, 4)}), arcs{arc(0, 6)}, "Rest")
	same(t, Rest(1, nil), arcs{arc(0, 1)}, "Rest")
	same(t, Rest(api.MaxTime, arcs{arc(1, 1)}), arcs{arc(2, api.MaxTime-1)}, "Rest")
	// Two arcs that meet at both of their ends.
	same(t, Meet(10, arcs{arc(2, 7)}, arcs{arc(7, 7)}), arcs{arc(2, 2), arc(7, 2)}, "Meet")
	same(t, Meet(10, arcs{arc(7, 7)}, arcs{arc(2, 7)}), arcs{arc(2, 2), arc(7, 2)}, "Meet")
	// They touch, and share nothing.
	same(t, Meet(10, arcs{arc(2, 3)}, arcs{arc(5, 3)}), nil, "Meet")
	same(t, Meet(10, arcs{arc(8, 6)}, arcs{arc(9, 3)}), arcs{arc(9, 3)}, "Meet")
	same(t, Meet(10, arcs{arc(0, 10)}, arcs{arc(5, 30)}), arcs{arc(0, 10)}, "Meet")
	same(t, Meet(10, nil, arcs{arc(5, 30)}), nil, "Meet")
	// What is left of all of them goes over the end.
	same(t, Less(10, arcs{arc(5, 10)}, arcs{arc(3, 2)}), arcs{arc(5, 8)}, "Less")
	same(t, Less(10, arcs{arc(8, 6)}, arcs{arc(0, 1)}), arcs{arc(1, 3), arc(8, 2)}, "Less")
	same(t, Less(10, arcs{arc(8, 6)}, nil), arcs{arc(8, 6)}, "Less")
	same(t, Less(10, arcs{arc(8, 2), arc(0, 2)}, arcs{arc(4, 4)}), arcs{arc(8, 4)}, "Less")
	same(t, Less(10, nil, arcs{arc(8, 6)}), nil, "Less")
	same(t, Less(10, arcs{arc(8, 6)}, arcs{arc(8, 6)}), nil, "Less")
	same(t, Less(10, arcs{arc(8, 6)}, arcs{arc(1, greatest)}), nil, "Less")
}

// Promise 3.2: all sets of a small cycle's ticks against all others, told in form and not in form.
func TestMeetLessRest(t *testing.T) {
	for c := int64(1); c <= 7; c++ {
		for _, x := range subsets(c) {
			a := untidy(x)
			none := make([]bool, c)
			for i, has := range x {
				none[i] = !has
			}
			same(t, Set(c, a...), inForm(x), "Set", c, a)
			same(t, Rest(c, a), inForm(none), "Rest", c, a)
			same(t, Rest(c, inForm(x)), inForm(none), "Rest", c, inForm(x))
			for _, y := range subsets(c) {
				b := untidy(y)
				both, left := make([]bool, c), make([]bool, c)
				for i := range c {
					both[i], left[i] = x[i] && y[i], x[i] && !y[i]
				}
				same(t, Meet(c, a, b), inForm(both), "Meet", c, a, b)
				same(t, Meet(c, inForm(x), b), inForm(both), "Meet", c, inForm(x), b)
				same(t, Less(c, a, b), inForm(left), "Less", c, a, b)
				same(t, Less(c, a, inForm(y)), inForm(left), "Less", c, a, inForm(y))
			}
		}
	}
}

// Promise 3.2: rows of arcs whose numbers are at the ends of int64.
func TestMeetAndLessFarAway(t *testing.T) {
	const c = 7
	for _, x := range far(c) {
		for _, y := range far(c) {
			a, b := arcs{x, arc(3, 1)}, arcs{y, arc(5, 1)}
			p, q := ticks(c, a...), ticks(c, b...)
			both, left := make([]bool, c), make([]bool, c)
			for i := range c {
				both[i], left[i] = p[i] && q[i], p[i] && !q[i]
			}
			same(t, Meet(c, a, b), inForm(both), "Meet", c, a, b)
			same(t, Less(c, a, b), inForm(left), "Less", c, a, b)
		}
	}
}

// Promise 3.2.
func TestTurnExamples(t *testing.T) {
	b := arcs{arc(0, 2), arc(9, 3)}
	same(t, Turn(12, b, 0), arcs{arc(9, 5)}, "Turn")
	same(t, Turn(12, b, -10), arcs{arc(11, 5)}, "Turn")
	same(t, Turn(12, b, 3), arcs{arc(0, 5)}, "Turn")
	same(t, Turn(12, b, 1203), arcs{arc(0, 5)}, "Turn")
	same(t, Turn(10, arcs{arc(8, 1), arc(3, 1)}, 4), arcs{arc(2, 1), arc(7, 1)}, "Turn")
	same(t, Turn(10, arcs{arc(8, 10)}, 4), arcs{arc(0, 10)}, "Turn")
	same(t, Turn(10, arcs{arc(8, 0)}, 4), nil, "Turn")
	same(t, Turn(10, nil, 4), nil, "Turn")
	same(t, Turn(10, arcs{arc(greatest, 2)}, greatest), arcs{arc(4, 2)}, "Turn")
	same(t, Turn(10, arcs{arc(least, 2)}, least), arcs{arc(4, 2)}, "Turn")
	same(t, Turn(10, arcs{arc(least, 2)}, greatest), arcs{arc(9, 2)}, "Turn")
	same(t, Turn(10, arcs{arc(least, greatest)}, least), arcs{arc(0, 10)}, "Turn")
	same(t, Turn(api.MaxTime, arcs{arc(api.MaxTime-1, 1)}, 1), arcs{arc(0, 1)}, "Turn")
}

// Promise 3.2: all sets of a small cycle's ticks, by numbers below 0 and greater than the cycle, against a count.
func TestTurn(t *testing.T) {
	for c := int64(1); c <= 7; c++ {
		steps := []int64{least, least + 1, least + c, greatest - c, greatest - 1, greatest}
		for by := -2*c - 1; by <= 2*c+1; by++ {
			steps = append(steps, by)
		}
		for _, by := range steps {
			for _, has := range subsets(c) {
				want := inForm(turned(has, by))
				same(t, Turn(c, inForm(has), by), want, "Turn", c, inForm(has), by)
				same(t, Turn(c, untidy(has), by), want, "Turn", c, untidy(has), by)
			}
			for _, a := range far(c) {
				same(t, Turn(c, arcs{a}, by), inForm(turned(ticks(c, a), by)), "Turn", c, a, by)
			}
		}
	}
}

// Promise 3.3.
func TestWidest(t *testing.T) {
	for _, r := range []struct {
		c    int64
		l    arcs
		want api.Arc
	}{
		{12, arcs{arc(0, 2), arc(9, 3)}, arc(9, 5)},
		{10, arcs{arc(7, 2), arc(1, 2), arc(4, 2)}, arc(1, 2)},     // as long: the least At
		{10, arcs{arc(7, 3), arc(1, 2), arc(4, 2)}, arc(7, 3)},     // the longest one
		{10, arcs{arc(9, 2), arc(3, 2)}, arc(3, 2)},                // that over the end has the greater At
		{10, arcs{arc(1, 4), arc(6, 2), arc(8, 2)}, arc(1, 4)},     // parts that touch are one
		{10, arcs{arc(1, 3), arc(6, 2), arc(8, 2)}, arc(6, 4)},     //
		{10, arcs{arc(2, 3), arc(2, 3), arc(2, 3)}, arc(2, 3)},     // the same ticks count once
		{10, arcs{arc(5, 10)}, arc(0, 10)},                         // all
		{10, arcs{arc(5, 5), arc(0, 5)}, arc(0, 10)},               //
		{10, arcs{arc(5, 0), arc(5, least)}, arc(0, 0)},            // none
		{10, nil, arc(0, 0)},                                       //
		{1, arcs{arc(9, 9)}, arc(0, 1)},                            //
		{10, arcs{arc(greatest, 2), arc(least, 3)}, arc(2, 3)},     //
		{api.MaxTime, arcs{arc(-3, 6), arc(9, 6)}, arc(9, 6)},      //
		{api.MaxTime, arcs{arc(-3, 7), arc(9, 6)}, arc(5997, 7)},   //
		{api.MaxTime, arcs{arc(-3, 3), arc(0, 4)}, arc(5997, 7)},   //
		{api.MaxTime, arcs{arc(1, greatest)}, arc(0, api.MaxTime)}, //
	} {
		if got := Widest(r.c, r.l); got != r.want {
			t.Errorf("Widest(%d, %v): %v; want %v", r.c, r.l, got, r.want)
		}
	}
	for c := int64(1); c <= 10; c++ {
		for _, has := range subsets(c) {
			l := untidy(has)
			if got, want := Widest(c, l), widestOf(inForm(has)); got != want {
				t.Fatalf("Widest(%d, %v): %v; want %v", c, l, got, want)
			}
		}
	}
}

// Promise 3.3.
func TestGap(t *testing.T) {
	for _, r := range []struct {
		c    int64
		a, b api.Arc
		want int64
	}{
		{10, arc(8, 4), arc(5, 1), 3},
		{12, arc(2, 3), arc(1, 1), 8},
		{12, arc(2, 3), arc(5, 1), 0},
		{12, arc(2, 3), arc(4, 1), 11}, // b begins at a's last tick
		{12, arc(2, 3), arc(2, 3), 9},
		{12, arc(2, 11), arc(2, 11), 1},
		{12, arc(2, 3), arc(7, 0), 0},
		{12, arc(2, 0), arc(7, 3), 0},
		{12, arc(2, least), arc(7, 3), 0},
		{12, arc(2, 3), arc(7, 12), 0},
		{12, arc(2, 12), arc(7, 3), 0},
		{12, arc(2, greatest), arc(7, 3), 0},
		{12, arc(2, 3), arc(7, greatest), 0},
		{1, arc(0, 1), arc(0, 1), 0},
		{10, arc(greatest, 1), arc(least, 1), 4},
		{10, arc(least, 1), arc(greatest, 1), 4},
		{10, arc(greatest, 9), arc(greatest, 1), 1},
		{api.MaxTime, arc(0, 1), arc(0, 1), api.MaxTime - 1},
	} {
		sameNumber(t, Gap(r.c, r.a, r.b), r.want, "Gap", r.c, r.a, r.b)
	}
	for c := int64(1); c <= 6; c++ {
		all := append(some(c), far(c)...)
		// Each arc against a part of the others: at all of them it would take too long.
		for i, a := range all {
			for j := i % 7; j < len(all); j += 7 {
				sameNumber(t, Gap(c, a, all[j]), gapOf(c, a, all[j]), "Gap", c, a, all[j])
			}
		}
	}
}

// forms tells all rows of arcs that stand in form, by the chapter's words, and that begin with the given ones.
func forms(c int64, begun arcs) []arcs {
	out := []arcs{}
	if standsInForm(c, begun) {
		out = append(out, slices.Clone(begun))
	}
	from := int64(0)
	if len(begun) > 0 {
		from = begun[len(begun)-1].At + 1
	}
	for at := from; at < c; at++ {
		for n := int64(1); n <= c; n++ {
			out = append(out, forms(c, append(slices.Clone(begun), arc(at, n)))...)
		}
	}
	return out
}

// Promise 3.4: each set of ticks has one form, that form has no other ticks, and all calls tell it.
func TestOneFormAlone(t *testing.T) {
	for c := int64(1); c <= 6; c++ {
		seen := map[string]int{}
		for _, l := range forms(c, nil) {
			same(t, Set(c, l...), l, "Set", c, l)
			same(t, Rest(c, Rest(c, l)), l, "Rest", c, l)
			same(t, Meet(c, l, l), l, "Meet", c, l)
			same(t, Less(c, l, nil), l, "Less", c, l)
			same(t, Turn(c, l, 0), l, "Turn", c, l)
			same(t, Turn(c, Turn(c, l, 5), -5), l, "Turn", c, l)
			key := ""
			for _, has := range ticks(c, l...) {
				key += map[bool]string{true: "#", false: "."}[has]
			}
			seen[key]++
			if seen[key] > 1 {
				t.Fatalf("cycle %d, ticks %s: %v is another form", c, key, l)
			}
		}
		if len(seen) != 1<<c {
			t.Fatalf("cycle %d: %d of %d sets have a form", c, len(seen), 1<<c)
		}
	}
}

// Promise 3.4: what the calls answer stands in form, on a greater cycle, too.
func TestAnswersStandInForm(t *testing.T) {
	for _, c := range []int64{1, 2, 3, 97, 600, api.MaxTime} {
		a, b := arcs{}, arcs{}
		for i := int64(1); i <= 40; i++ {
			a = append(a, arc(i*i*7919-c, i*13%29-1))
			b = append(b, arc(-i*104729, i*31%37))
			p, q := ticks(c, a...), ticks(c, b...)
			both, left, none := make([]bool, c), make([]bool, c), make([]bool, c)
			for k := range c {
				both[k], left[k], none[k] = p[k] && q[k], p[k] && !q[k], !p[k]
			}
			for _, r := range []struct {
				name string
				got  arcs
				want []bool
			}{
				{"Set", Set(c, a...), p},
				{"Meet", Meet(c, a, b), both},
				{"Less", Less(c, a, b), left},
				{"Rest", Rest(c, a), none},
				{"Turn", Turn(c, a, -i*1000003), turned(p, -i*1000003)},
			} {
				if !standsInForm(c, r.got) {
					t.Fatalf("%s of cycle %d, %d arcs: %v is not in form", r.name, c, i, r.got)
				}
				same(t, r.got, inForm(r.want), r.name, c, a, b)
			}
		}
	}
}

// Rule R4, of all promises: what is handed in stays as it is, what lies behind its end, too; what is handed out is the caller's alone.
func TestMemory(t *testing.T) {
	full := arcs{arc(18, 4), arc(1, 3), arc(-3, 1), arc(5, 1), arc(99, 99), arc(77, 77)}
	given := slices.Clone(full)
	l, m := given[:4], given[2:4]
	for _, call := range []func() arcs{
		func() arcs { return Set(10, l...) },
		func() arcs { return Meet(10, l, m) },
		func() arcs { return Less(10, l, m) },
		func() arcs { return Rest(10, l) },
		func() arcs { return Turn(10, l, 3) },
		func() arcs { return Set(10, Set(10, l...)...) },
	} {
		first := call()
		kept := slices.Clone(first)
		for i := range first[:cap(first)] {
			first[:cap(first)][i] = arc(-1, -1)
		}
		same(t, call(), kept, "again")
		same(t, given, full, "given")
	}
	Total(10, l)
	Widest(10, l)
	same(t, given, full, "given")
}
