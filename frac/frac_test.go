package frac

import (
	"math"
	"math/big"
	"slices"
	"testing"

	"carrefour/api"
)

const (
	least    = math.MinInt64
	greatest = math.MaxInt64
)

func fr(n, d int64) api.Frac { return api.Frac{Num: n, Den: d} }

// edges: small numbers of both signs, and what lies around the powers of two and the root at which products cease to fit.
func edges() []int64 {
	out := []int64{least, least + 1, least + 2, least / 3, greatest / 3, greatest - 1, greatest}
	for n := int64(-7); n <= 12; n++ {
		out = append(out, n)
	}
	for _, n := range []int64{1 << 31, 1 << 32, 3037000499, 1 << 61, 1 << 62} {
		for d := int64(-1); d <= 1; d++ {
			out = append(out, n+d, -n-d)
		}
	}
	return append(out, 600851475143, -1000000007, 3<<60, -3<<60)
}

// fewer are edges for rows of four, which would be too many of all of them.
func fewer() []int64 {
	return []int64{least, least + 1, -3 << 60, -(1 << 32), -6, -2, -1, 0, 1, 2, 3, 10, 1<<32 - 1, 1 << 62, 1<<62 - 1, greatest - 1, greatest}
}

// pairs are all fractions of the few edges, those that are not right among them.
func pairs() []api.Frac {
	out := []api.Frac{}
	for _, n := range fewer() {
		for _, d := range fewer() {
			out = append(out, fr(n, d))
		}
	}
	return out
}

// lowest tells by math/big alone whether a fraction is right.
func lowest(f api.Frac) bool {
	if f.Den < 1 {
		return false
	}
	r := big.NewRat(f.Num, f.Den)
	return r.Denom().Cmp(big.NewInt(f.Den)) == 0
}

// exact tells what a fraction counts as, as math/big's.
func exact(f api.Frac) *big.Rat {
	if !lowest(f) {
		return new(big.Rat)
	}
	return big.NewRat(f.Num, f.Den)
}

// same holds an answer against the fraction that is right, which is ErrOver where it does not fit.
func same(t *testing.T, got api.Frac, e api.Errno, want *big.Rat, call string, args ...any) {
	t.Helper()
	if !want.Num().IsInt64() || !want.Denom().IsInt64() {
		held(t, got, e, api.Frac{}, api.ErrOver, call, args...)
		return
	}
	held(t, got, e, fr(want.Num().Int64(), want.Denom().Int64()), api.OK, call, args...)
}

func held(t *testing.T, got api.Frac, e api.Errno, want api.Frac, err api.Errno, call string, args ...any) {
	t.Helper()
	if got != want || e != err {
		t.Fatalf("%s%v: %v, error %d; want %v, error %d", call, args, got, e, want, err)
	}
}

// Promise 2.1.
func TestRight(t *testing.T) {
	for _, r := range []struct {
		n, d int64
		want bool
	}{
		{0, 1, true}, {1, 1, true}, {-3, 2, true}, {greatest, greatest - 1, true}, {least, 1, true}, {least, greatest, true},
		{least, 3, true}, {1, greatest, true}, {1, 1 << 62, true},
		{0, 0, false}, {1, 0, false}, {0, 2, false}, {0, -1, false}, {0, greatest, false}, {2, 4, false}, {-2, 4, false},
		{1, -2, false}, {-1, -2, false}, {1, least, false}, {least, least, false}, {least, 2, false}, {least, 1 << 62, false},
		{greatest, greatest, false}, {least, 0, false}, {least, -1, false},
	} {
		if got := Right(fr(r.n, r.d)); got != r.want {
			t.Errorf("Right(%d/%d): %v", r.n, r.d, got)
		}
	}
	for _, n := range edges() {
		for _, d := range edges() {
			if f := fr(n, d); Right(f) != lowest(f) {
				t.Errorf("Right(%v): %v", f, Right(f))
			}
		}
	}
}

// Promise 2.1.
func TestOf(t *testing.T) {
	for _, r := range []struct {
		n, d int64
		want api.Frac
		err  api.Errno
	}{
		{6, 4, fr(3, 2), api.OK},
		{-6, -4, fr(3, 2), api.OK},
		{6, -4, fr(-3, 2), api.OK},
		{0, -9, fr(0, 1), api.OK},
		{0, least, fr(0, 1), api.OK},
		{least, least, fr(1, 1), api.OK},
		{least, 1, fr(least, 1), api.OK},
		{least, 2, fr(-1<<62, 1), api.OK},
		{least, -2, fr(1<<62, 1), api.OK},
		{2, least, fr(-1, 1<<62), api.OK},
		{least, greatest, fr(least, greatest), api.OK},
		{least, -greatest, api.Frac{}, api.ErrOver},
		{least, -1, api.Frac{}, api.ErrOver},
		{1, least, api.Frac{}, api.ErrOver},
		{greatest, least, api.Frac{}, api.ErrOver},
		{3, 0, api.Frac{}, api.ErrZero},
		{0, 0, api.Frac{}, api.ErrZero},
		{least, 0, api.Frac{}, api.ErrZero},
	} {
		got, e := Of(r.n, r.d)
		held(t, got, e, r.want, r.err, "Of", r.n, r.d)
	}
	for _, n := range edges() {
		for _, d := range edges() {
			got, e := Of(n, d)
			if d == 0 {
				held(t, got, e, api.Frac{}, api.ErrZero, "Of", n, d)
			} else {
				same(t, got, e, new(big.Rat).SetFrac(big.NewInt(n), big.NewInt(d)), "Of", n, d)
			}
		}
	}
}

// row is one call of two fractions and its answer as the chapter's words give it.
type row struct {
	name string
	call func(a, b api.Frac) (api.Frac, api.Errno)
	a, b api.Frac
	want api.Frac
	err  api.Errno
}

// Promise 2.2.
func TestSumsAndProducts(t *testing.T) {
	for _, r := range []row{
		{"Add", Add, fr(1, 6), fr(1, 10), fr(4, 15), api.OK},
		{"Add", Add, fr(1, 1<<62), fr(1, 1<<62-1), api.Frac{}, api.ErrOver},
		{"Add", Add, fr(1, 1<<62), fr(1, 1<<62), fr(1, 1<<61), api.OK},
		{"Add", Add, fr(1, 2), fr(-1, 2), fr(0, 1), api.OK},
		{"Add", Add, fr(greatest, 1), fr(1, 1), api.Frac{}, api.ErrOver},
		{"Add", Add, fr(least, 1), fr(greatest, 1), fr(-1, 1), api.OK},
		{"Add", Add, fr(least+1, 1), fr(-1, 1), fr(least, 1), api.OK},
		{"Add", Add, fr(least, 1), fr(-1, 1), api.Frac{}, api.ErrOver},
		{"Add", Add, fr(greatest, 2), fr(greatest, 2), fr(greatest, 1), api.OK},
		{"Add", Add, fr(greatest, greatest-1), fr(-1, greatest-1), fr(1, 1), api.OK},
		{"Add", Add, fr(2, 4), fr(1, 3), fr(1, 3), api.OK},
		{"Add", Add, fr(1, 3), fr(1, 0), fr(1, 3), api.OK},
		{"Add", Add, api.Frac{}, api.Frac{}, fr(0, 1), api.OK},
		{"Sub", Sub, fr(1, 3), fr(1, 2), fr(-1, 6), api.OK},
		{"Sub", Sub, fr(-1, 1), fr(least, 1), fr(greatest, 1), api.OK},
		{"Sub", Sub, fr(0, 1), fr(least, 1), api.Frac{}, api.ErrOver},
		{"Sub", Sub, fr(least, 1), fr(least, 1), fr(0, 1), api.OK},
		{"Sub", Sub, fr(least, 3), fr(least, 3), fr(0, 1), api.OK},
		{"Sub", Sub, fr(0, 1), fr(greatest, 1), fr(-greatest, 1), api.OK},
		{"Sub", Sub, fr(1, 2), fr(3, -4), fr(1, 2), api.OK},
		{"Sub", Sub, fr(3, -4), fr(1, 2), fr(-1, 2), api.OK},
		{"Mul", Mul, fr(-2, 3), fr(3, 4), fr(-1, 2), api.OK},
		{"Mul", Mul, fr(greatest, 3), fr(3, greatest), fr(1, 1), api.OK},
		{"Mul", Mul, fr(least, 1), fr(1, 1<<62), fr(-2, 1), api.OK},
		{"Mul", Mul, fr(least, 1), fr(1, 1), fr(least, 1), api.OK},
		{"Mul", Mul, fr(least, 1), fr(-1, 1), api.Frac{}, api.ErrOver},
		{"Mul", Mul, fr(1, 1<<32), fr(1, 1<<32), api.Frac{}, api.ErrOver},
		{"Mul", Mul, fr(1<<32, 1), fr(1<<32, 1), api.Frac{}, api.ErrOver},
		{"Mul", Mul, fr(0, 1), fr(least, greatest), fr(0, 1), api.OK},
		{"Mul", Mul, fr(5, 10), fr(7, 3), fr(0, 1), api.OK},
		{"Div", Div, fr(-2, 3), fr(-4, 9), fr(3, 2), api.OK},
		{"Div", Div, fr(1, 2), fr(-1, 3), fr(-3, 2), api.OK},
		{"Div", Div, fr(0, 1), fr(-5, 3), fr(0, 1), api.OK},
		{"Div", Div, fr(least, 1), fr(least, 1), fr(1, 1), api.OK},
		{"Div", Div, fr(2, 1), fr(least, 1), fr(-1, 1<<62), api.OK},
		{"Div", Div, fr(1, 1), fr(least, 1), api.Frac{}, api.ErrOver},
		{"Div", Div, fr(least, 1), fr(-1, 1), api.Frac{}, api.ErrOver},
		{"Div", Div, fr(1, greatest), fr(1, greatest), fr(1, 1), api.OK},
		{"Div", Div, fr(1, 2), fr(0, 1), api.Frac{}, api.ErrZero},
		{"Div", Div, fr(0, 1), fr(0, 1), api.Frac{}, api.ErrZero},
		{"Div", Div, fr(1, 2), fr(2, 4), api.Frac{}, api.ErrZero},
		{"Div", Div, fr(1, 2), fr(1, 0), api.Frac{}, api.ErrZero},
		{"Div", Div, fr(least, 1), fr(1, -1), api.Frac{}, api.ErrZero},
		{"Div", Div, fr(4, 2), fr(1, 3), fr(0, 1), api.OK},
	} {
		got, e := r.call(r.a, r.b)
		if got != r.want || e != r.err {
			t.Errorf("%s(%v, %v): %v, error %d; want %v, error %d", r.name, r.a, r.b, got, e, r.want, r.err)
		}
	}
}

// Promise 2.2: all of the edges against math/big, whatever is too great on the way.
func TestAnswersThatFit(t *testing.T) {
	all := pairs()
	counts := make([]*big.Rat, len(all))
	for i, f := range all {
		counts[i] = exact(f)
	}
	want := new(big.Rat)
	for i, a := range all {
		for j, b := range all {
			got, e := Add(a, b)
			same(t, got, e, want.Add(counts[i], counts[j]), "Add", a, b)
			got, e = Sub(a, b)
			same(t, got, e, want.Sub(counts[i], counts[j]), "Sub", a, b)
			got, e = Mul(a, b)
			same(t, got, e, want.Mul(counts[i], counts[j]), "Mul", a, b)
			got, e = Div(a, b)
			if counts[j].Sign() == 0 {
				held(t, got, e, api.Frac{}, api.ErrZero, "Div", a, b)
			} else {
				same(t, got, e, want.Quo(counts[i], counts[j]), "Div", a, b)
			}
		}
	}
}

// Promise 2.2: sums whose numerator and denominator are both too great ahead of lowering, by a divisor that only a part of the common denominator has.
func TestSumsThatAreLoweredAtTheEnd(t *testing.T) {
	for _, p := range []int64{3, 5, 97, 65537, 1000000007} {
		for _, q := range []int64{2, 4, 9, 1 << 20, 1000003} {
			for _, n := range []int64{-9000000001, -1, 1, 7, 1 << 40} {
				a, e := Of(n, p*q)
				b, f := Of(p-n, p*q)
				if e != api.OK || f != api.OK {
					t.Fatal(n, p, q, e, f)
				}
				got, e := Add(a, b)
				same(t, got, e, new(big.Rat).Add(exact(a), exact(b)), "Add", a, b)
				got, e = Sub(a, b)
				same(t, got, e, new(big.Rat).Sub(exact(a), exact(b)), "Sub", a, b)
			}
		}
	}
}

// Promise 2.2.
func TestSum(t *testing.T) {
	for _, r := range []struct {
		l    []api.Frac
		want api.Frac
		err  api.Errno
	}{
		{nil, fr(0, 1), api.OK},
		{[]api.Frac{}, fr(0, 1), api.OK},
		{[]api.Frac{fr(-3, 7)}, fr(-3, 7), api.OK},
		{[]api.Frac{fr(2, 4)}, fr(0, 1), api.OK},
		{[]api.Frac{{}}, fr(0, 1), api.OK},
		{[]api.Frac{fr(least, greatest)}, fr(least, greatest), api.OK},
		{[]api.Frac{fr(1, 2), fr(1, 3), fr(1, 6)}, fr(1, 1), api.OK},
		{[]api.Frac{fr(1, 2), fr(9, 3), fr(1, -2), fr(1, 3)}, fr(5, 6), api.OK},
		{[]api.Frac{fr(greatest, 1), fr(-1, 1), fr(1, 1)}, fr(greatest, 1), api.OK},
		{[]api.Frac{fr(greatest, 1), fr(1, 1), fr(-1, 1)}, api.Frac{}, api.ErrOver},
		{[]api.Frac{fr(1, 1<<62), fr(1, 1<<62-1), fr(-1, 1<<62-1)}, api.Frac{}, api.ErrOver},
		{[]api.Frac{fr(least, 1), fr(-1, 1)}, api.Frac{}, api.ErrOver},
	} {
		given := slices.Clone(r.l)
		got, e := Sum(given...)
		held(t, got, e, r.want, r.err, "Sum", r.l)
		if !slices.Equal(given, r.l) {
			t.Errorf("Sum changed %v to %v", r.l, given)
		}
	}
}

// Promise 2.2: a sum of many is what comes of them one by one, and ErrOver from the first that does not fit on.
func TestSumOfMany(t *testing.T) {
	list := []api.Frac{}
	want := new(big.Rat)
	over := false
	for n := int64(1); n <= 60; n++ {
		f := fr(1, n)
		list = append(list, f)
		want.Add(want, exact(f))
		over = over || !want.Num().IsInt64() || !want.Denom().IsInt64()
		got, e := Sum(list...)
		if over {
			held(t, got, e, api.Frac{}, api.ErrOver, "Sum", n)
		} else {
			same(t, got, e, want, "Sum", n)
		}
	}
	if !over {
		t.Fatal("no sum was too great")
	}
}

// Promise 2.2.
func TestMax(t *testing.T) {
	for _, r := range []struct {
		l    []api.Frac
		want api.Frac
	}{
		{nil, fr(0, 1)},
		{[]api.Frac{}, fr(0, 1)},
		{[]api.Frac{fr(-1, 2)}, fr(-1, 2)},
		{[]api.Frac{fr(4, 2)}, fr(0, 1)},
		{[]api.Frac{{}}, fr(0, 1)},
		{[]api.Frac{fr(1, 3), fr(2, 5), fr(3, 8)}, fr(2, 5)},
		{[]api.Frac{fr(-1, 2), fr(-1, 3), fr(-2, 3)}, fr(-1, 3)},
		{[]api.Frac{fr(-1, 2), fr(8, 4), fr(-2, 3)}, fr(0, 1)},
		{[]api.Frac{fr(5, -1), fr(-1, 9)}, fr(0, 1)},
		{[]api.Frac{fr(9, 6), fr(1, 9)}, fr(1, 9)},
		{[]api.Frac{fr(greatest-1, greatest), fr(greatest-2, greatest-1)}, fr(greatest-1, greatest)},
		{[]api.Frac{fr(least, 1), fr(least, greatest), fr(least+1, 1)}, fr(least, greatest)},
	} {
		given := slices.Clone(r.l)
		if got := Max(given...); got != r.want {
			t.Errorf("Max(%v): %v; want %v", r.l, got, r.want)
		}
		if !slices.Equal(given, r.l) {
			t.Errorf("Max changed %v to %v", r.l, given)
		}
	}
}

// Promise 2.3.
func TestCmp(t *testing.T) {
	for _, r := range []struct {
		a, b api.Frac
		want int
	}{
		{fr(1, 3), fr(1, 2), -1},
		{fr(1, 2), fr(1, 2), 0},
		{fr(-1, 3), fr(-1, 2), 1},
		{fr(greatest, greatest-1), fr(greatest-1, greatest-2), -1},
		{fr(least, 1), fr(greatest, 1), -1},
		{fr(least, greatest), fr(-1, 1), -1},
		{fr(2, 4), fr(0, 1), 0},
		{fr(2, 4), fr(1, 9), -1},
		{fr(1, -9), fr(-1, 9), 1},
		{fr(1, 0), api.Frac{}, 0},
	} {
		if got := Cmp(r.a, r.b); got != r.want {
			t.Errorf("Cmp(%v, %v): %d; want %d", r.a, r.b, got, r.want)
		}
	}
	for _, a := range pairs() {
		x := exact(a)
		for _, b := range pairs() {
			if got := Cmp(a, b); got != x.Cmp(exact(b)) {
				t.Fatalf("Cmp(%v, %v): %d", a, b, got)
			}
		}
	}
}

// below is math/big's whole number that is not above a fraction.
func below(r *big.Rat) int64 { return new(big.Int).Div(r.Num(), r.Denom()).Int64() }

// Promise 2.3.
func TestRounding(t *testing.T) {
	for _, r := range []struct {
		f        api.Frac
		down, up int64
	}{
		{fr(-1, 2), -1, 0},
		{fr(1, 2), 0, 1},
		{fr(-7, 2), -4, -3},
		{fr(7, 2), 3, 4},
		{fr(0, 1), 0, 0},
		{fr(-5, 1), -5, -5},
		{fr(least, 1), least, least},
		{fr(greatest, 1), greatest, greatest},
		{fr(least, greatest), -2, -1},
		{fr(greatest, greatest-1), 1, 2},
		{fr(1, greatest), 0, 1},
		{fr(-1, greatest), -1, 0},
		{fr(10, 4), 0, 0},
		{fr(7, -2), 0, 0},
		{fr(7, 0), 0, 0},
		{api.Frac{}, 0, 0},
	} {
		if down, up := Floor(r.f), Ceil(r.f); down != r.down || up != r.up {
			t.Errorf("%v: down %d, up %d; want %d, %d", r.f, down, up, r.down, r.up)
		}
	}
	for _, f := range pairs() {
		x := exact(f)
		if down, up := Floor(f), Ceil(f); down != below(x) || up != -below(x.Neg(x)) {
			t.Errorf("%v: down %d, up %d", f, down, up)
		}
	}
}

// Promise 2.3.
func TestPrint(t *testing.T) {
	for _, r := range []struct {
		f    api.Frac
		want string
	}{
		{fr(-1, 7), "-1/7"},
		{fr(4, 15), "4/15"},
		{fr(0, 1), "0/1"},
		{fr(3, 1), "3/1"},
		{fr(least, greatest), "-9223372036854775808/9223372036854775807"},
		{fr(2, 4), "0/1"},
		{fr(1, 0), "0/1"},
		{fr(1, -3), "0/1"},
		{api.Frac{}, "0/1"},
	} {
		if got := Print(r.f); got != r.want {
			t.Errorf("Print(%v): %q; want %q", r.f, got, r.want)
		}
	}
}

type two func(a, b api.Frac) (api.Frac, api.Errno)

// orders tells what comes of three fractions, taken in all of their orders, from the left and from the right on; and whether all of it fits.
func orders(call two, a, b, c api.Frac) ([]api.Frac, bool) {
	out := []api.Frac{}
	fits := true
	for _, l := range [][3]api.Frac{{a, b, c}, {a, c, b}, {b, a, c}, {b, c, a}, {c, a, b}, {c, b, a}} {
		left, e1 := call(l[0], l[1])
		x, e2 := call(left, l[2])
		right, e3 := call(l[1], l[2])
		y, e4 := call(l[0], right)
		fits = fits && e1 == api.OK && e2 == api.OK && e3 == api.OK && e4 == api.OK
		out = append(out, x, y)
	}
	return out, fits
}

// Promise 2.4.
func TestAnyOrder(t *testing.T) {
	list := []api.Frac{fr(0, 1), fr(1, 2), fr(-3, 4), fr(5, 6), fr(-7, 9), fr(22, 7), fr(greatest, 2), fr(-greatest, 2), fr(1, 1<<62), fr(least, 1), fr(1<<31, 3), fr(2, 6)}
	for i, call := range []two{Add, Mul} {
		seen := 0
		for _, a := range list {
			for _, b := range list {
				for _, c := range list {
					got, fits := orders(call, a, b, c)
					if !fits {
						continue
					}
					seen++
					for _, x := range got {
						if x != got[0] || !Right(x) {
							t.Fatalf("call %d of %v, %v, %v: %v", i, a, b, c, got)
						}
					}
				}
			}
		}
		if seen < 500 {
			t.Fatalf("call %d: only %d rows fit", i, seen)
		}
	}
}
