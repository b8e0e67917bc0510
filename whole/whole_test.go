package whole

import (
	"math"
	"math/big"
	"testing"

	"carrefour/api"
)

const (
	least    = math.MinInt64
	greatest = math.MaxInt64
)

// edges: small numbers of both signs, and what lies around the powers of two and the root at which sums, products and squares cease to fit.
func edges() []int64 {
	out := []int64{}
	for n := int64(-13); n <= 13; n++ {
		out = append(out, n)
	}
	for _, n := range []int64{1 << 31, 1 << 32, 3037000499, 1 << 61, 1 << 62, greatest - 1} {
		for d := int64(-1); d <= 1; d++ {
			out = append(out, n+d, -n-d)
		}
	}
	return append(out, least, least+1, least/3, greatest/3, 600851475143, -1000000007)
}

// fewer are edges for rows of four, which would be too many of all of them.
func fewer() []int64 {
	return []int64{least, least + 1, -(1 << 62), -(1 << 32), -7, -2, -1, 0, 1, 2, 3, 8, 1 << 31, 1 << 62, greatest - 1, greatest}
}

func great(n int64) *big.Int { return big.NewInt(n) }

// floor is math/big's quotient rounded down, whatever the signs.
func floor(a, b *big.Int) *big.Int {
	q, r := new(big.Int).QuoRem(a, b, new(big.Int))
	if r.Sign() != 0 && r.Sign() != b.Sign() {
		q.Sub(q, great(1))
	}
	return q
}

func ceil(a, b *big.Int) *big.Int {
	q := floor(new(big.Int).Neg(a), b)
	return q.Neg(q)
}

// same holds an answer against the number that is right, which is ErrOver where it does not fit.
func same(t *testing.T, got int64, e api.Errno, want *big.Int, call string, args ...int64) {
	t.Helper()
	if !want.IsInt64() {
		refused(t, got, e, api.ErrOver, call, args...)
		return
	}
	if e != api.OK || got != want.Int64() {
		t.Fatalf("%s%v: %d, error %d; want %v", call, args, got, e, want)
	}
}

func refused(t *testing.T, got int64, e, want api.Errno, call string, args ...int64) {
	t.Helper()
	if e != want || got != 0 {
		t.Fatalf("%s%v: %d, error %d; want 0, error %d", call, args, got, e, want)
	}
}

type two func(a, b int64) (int64, api.Errno)

// row is one call of two numbers and its answer as the chapter's words give it.
type row struct {
	name string
	call two
	a, b int64
	want int64
	err  api.Errno
}

func holdRows(t *testing.T, rows []row) {
	t.Helper()
	for _, r := range rows {
		got, e := r.call(r.a, r.b)
		if got != r.want || e != r.err {
			t.Errorf("%s(%d, %d): %d, error %d; want %d, error %d", r.name, r.a, r.b, got, e, r.want, r.err)
		}
	}
}

// Promise 1.1.
func TestSumsAndProducts(t *testing.T) {
	holdRows(t, []row{
		{"Add", Add, 2, 3, 5, api.OK},
		{"Add", Add, least, greatest, -1, api.OK},
		{"Add", Add, greatest, 0, greatest, api.OK},
		{"Add", Add, greatest, 1, 0, api.ErrOver},
		{"Add", Add, least, -1, 0, api.ErrOver},
		{"Add", Add, least, least, 0, api.ErrOver},
		{"Sub", Sub, 2, 3, -1, api.OK},
		{"Sub", Sub, -1, least, greatest, api.OK},
		{"Sub", Sub, least, least, 0, api.OK},
		{"Sub", Sub, 0, least, 0, api.ErrOver},
		{"Sub", Sub, least, 1, 0, api.ErrOver},
		{"Sub", Sub, greatest, -1, 0, api.ErrOver},
		{"Mul", Mul, -6, 7, -42, api.OK},
		{"Mul", Mul, least, 1, least, api.OK},
		{"Mul", Mul, 1 << 62, -2, least, api.OK},
		{"Mul", Mul, least, 0, 0, api.OK},
		{"Mul", Mul, least, -1, 0, api.ErrOver},
		{"Mul", Mul, -1, least, 0, api.ErrOver},
		{"Mul", Mul, 1 << 62, 2, 0, api.ErrOver},
		{"Mul", Mul, 1 << 32, 1 << 32, 0, api.ErrOver},
		{"Mul", Mul, least, least, 0, api.ErrOver},
		{"Mul", Mul, greatest, greatest, 0, api.ErrOver},
	})
	for _, a := range edges() {
		for _, b := range edges() {
			n, e := Add(a, b)
			same(t, n, e, new(big.Int).Add(great(a), great(b)), "Add", a, b)
			n, e = Sub(a, b)
			same(t, n, e, new(big.Int).Sub(great(a), great(b)), "Sub", a, b)
			n, e = Mul(a, b)
			same(t, n, e, new(big.Int).Mul(great(a), great(b)), "Mul", a, b)
		}
	}
}

// Promise 1.1.
func TestOpposite(t *testing.T) {
	for _, a := range edges() {
		n, e := Neg(a)
		same(t, n, e, new(big.Int).Neg(great(a)), "Neg", a)
	}
	n, e := Neg(least)
	refused(t, n, e, api.ErrOver, "Neg", least)
}

// Promise 1.2.
func TestQuotientsAndRests(t *testing.T) {
	holdRows(t, []row{
		{"Floor", Floor, -7, 2, -4, api.OK},
		{"Floor", Floor, 7, -2, -4, api.OK},
		{"Floor", Floor, least, 1, least, api.OK},
		{"Floor", Floor, 1, least, -1, api.OK},
		{"Floor", Floor, least, -1, 0, api.ErrOver},
		{"Floor", Floor, 5, 0, 0, api.ErrZero},
		{"Floor", Floor, 0, 0, 0, api.ErrZero},
		{"Floor", Floor, least, 0, 0, api.ErrZero},
		{"Ceil", Ceil, -7, 2, -3, api.OK},
		{"Ceil", Ceil, 7, 2, 4, api.OK},
		{"Ceil", Ceil, -1, least, 1, api.OK},
		{"Ceil", Ceil, least, -1, 0, api.ErrOver},
		{"Ceil", Ceil, 5, 0, 0, api.ErrZero},
		{"Ceil", Ceil, 0, 0, 0, api.ErrZero},
		{"Mod", Mod, -7, 3, 2, api.OK},
		{"Mod", Mod, -6, 3, 0, api.OK},
		{"Mod", Mod, least, greatest, greatest - 1, api.OK},
		{"Mod", Mod, least, 1, 0, api.OK},
		{"Mod", Mod, 7, 0, 0, api.ErrArg},
		{"Mod", Mod, 7, -3, 0, api.ErrArg},
		{"Mod", Mod, least, -1, 0, api.ErrArg},
		{"Mod", Mod, 7, least, 0, api.ErrArg},
	})
	for _, a := range edges() {
		for _, b := range edges() {
			if b == 0 {
				continue
			}
			n, e := Floor(a, b)
			same(t, n, e, floor(great(a), great(b)), "Floor", a, b)
			n, e = Ceil(a, b)
			same(t, n, e, ceil(great(a), great(b)), "Ceil", a, b)
			n, e = Mod(a, b)
			if b < 1 {
				refused(t, n, e, api.ErrArg, "Mod", a, b)
			} else {
				same(t, n, e, new(big.Int).Mod(great(a), great(b)), "Mod", a, b)
			}
		}
	}
}

// Promise 1.2.
func TestScaleExamples(t *testing.T) {
	for _, r := range []struct {
		a, b, c, want int64
		err           api.Errno
	}{
		{7, 3, 2, 10, api.OK},
		{-7, 3, 2, -11, api.OK},
		{7, -3, 3, -7, api.OK},
		{1 << 62, 6, 2, 0, api.ErrOver},
		{1 << 62, 6, 8, 3 << 60, api.OK},
		{greatest, greatest, greatest, greatest, api.OK},
		{least, greatest, greatest, least, api.OK},
		{least, least, greatest, 0, api.ErrOver},
		{least, least, 1, 0, api.ErrOver},
		{least, greatest, 1, 0, api.ErrOver},
		{greatest, greatest, 1, 0, api.ErrOver},
		{1 << 62, 2, 1, 0, api.ErrOver},
		{1 << 62, -2, 1, least, api.OK},
		{-(1 << 62), 5, 2, 0, api.ErrOver},
		{least, 3, 4, -3 << 61, api.OK},
		{-1, 1, greatest, -1, api.OK},
		{0, least, 1, 0, api.OK},
		{1, 1, 0, 0, api.ErrArg},
		{1, 1, -1, 0, api.ErrArg},
		{0, 0, least, 0, api.ErrArg},
		{greatest, greatest, 0, 0, api.ErrArg},
	} {
		got, e := Scale(r.a, r.b, r.c)
		if got != r.want || e != r.err {
			t.Errorf("Scale(%d, %d, %d): %d, error %d; want %d, error %d", r.a, r.b, r.c, got, e, r.want, r.err)
		}
	}
}

// Promise 1.2.
func TestScaleIsReckonedWhole(t *testing.T) {
	for _, a := range edges() {
		for _, b := range edges() {
			product := new(big.Int).Mul(great(a), great(b))
			for _, c := range edges() {
				n, e := Scale(a, b, c)
				if c < 1 {
					refused(t, n, e, api.ErrArg, "Scale", a, b, c)
				} else {
					same(t, n, e, floor(product, great(c)), "Scale", a, b, c)
				}
			}
		}
	}
}

// Promise 1.3.
func TestDivisorsAndMultiples(t *testing.T) {
	holdRows(t, []row{
		{"Gcd", Gcd, 12, 18, 6, api.OK},
		{"Gcd", Gcd, -12, 18, 6, api.OK},
		{"Gcd", Gcd, 0, 0, 0, api.OK},
		{"Gcd", Gcd, 0, -5, 5, api.OK},
		{"Gcd", Gcd, least, 6, 2, api.OK},
		{"Gcd", Gcd, 1 << 62, least, 1 << 62, api.OK},
		{"Gcd", Gcd, least, 0, 0, api.ErrOver},
		{"Gcd", Gcd, 0, least, 0, api.ErrOver},
		{"Gcd", Gcd, least, least, 0, api.ErrOver},
		{"Lcm", Lcm, 12, 18, 36, api.OK},
		{"Lcm", Lcm, -12, 18, 36, api.OK},
		{"Lcm", Lcm, -4, -6, 12, api.OK},
		{"Lcm", Lcm, 0, 0, 0, api.OK},
		{"Lcm", Lcm, 0, least, 0, api.OK},
		{"Lcm", Lcm, least, 0, 0, api.OK},
		{"Lcm", Lcm, greatest, -greatest, greatest, api.OK},
		{"Lcm", Lcm, 1 << 62, 1 << 61, 1 << 62, api.OK},
		{"Lcm", Lcm, greatest, 2, 0, api.ErrOver},
		{"Lcm", Lcm, least, 1, 0, api.ErrOver},
		{"Lcm", Lcm, least, -1, 0, api.ErrOver},
		{"Lcm", Lcm, 2, least, 0, api.ErrOver},
		{"Lcm", Lcm, least, least, 0, api.ErrOver},
		{"Lcm", Lcm, 1 << 32, 1<<32 - 1, 0, api.ErrOver},
	})
	for _, a := range edges() {
		for _, b := range edges() {
			x, y := new(big.Int).Abs(great(a)), new(big.Int).Abs(great(b))
			divisor := new(big.Int).GCD(nil, nil, x, y)
			n, e := Gcd(a, b)
			same(t, n, e, divisor, "Gcd", a, b)
			multiple := new(big.Int).Mul(x, y)
			if multiple.Sign() != 0 {
				multiple.Quo(multiple, divisor)
			}
			n, e = Lcm(a, b)
			same(t, n, e, multiple, "Lcm", a, b)
		}
	}
}

// Promise 1.3.
func TestRoots(t *testing.T) {
	for _, r := range []struct{ n, want int64 }{{0, 0}, {1, 1}, {2, 1}, {3, 1}, {4, 2}, {greatest, 3037000499}, {1 << 62, 1 << 31}, {1<<62 - 1, 1<<31 - 1}} {
		got, e := Sqrt(r.n)
		same(t, got, e, great(r.want), "Sqrt", r.n)
	}
	for _, n := range edges() {
		got, e := Sqrt(n)
		if n < 0 {
			refused(t, got, e, api.ErrArg, "Sqrt", n)
		} else {
			same(t, got, e, new(big.Int).Sqrt(great(n)), "Sqrt", n)
		}
	}
	for _, root := range []int64{5, 46340, 94906267, 2147483647, 2147483648, 3037000498, 3037000499} {
		square := root * root
		for d, want := range []int64{root - 1, root, root} {
			got, e := Sqrt(square + int64(d) - 1)
			same(t, got, e, great(want), "Sqrt", square+int64(d)-1)
		}
	}
}

// Promise 1.4.
func TestCompare(t *testing.T) {
	for _, r := range []struct {
		a, b, c, d int64
		want       int
	}{
		{2, 3, 1, 7, -1},
		{-3, 4, 2, -6, 0},
		{1, -1, 0, 5, -1},
		{least, least, greatest, greatest, 1},
		{least, greatest, greatest, least, 0},
		{least, greatest, least, least, -1},
		{least, 2, least, 3, 1},
		{1 << 32, 1 << 32, 0, 0, 1},
		{1 << 62, 4, 0, least, 1},
		{least, -1, 1 << 62, 2, 0},
		{least, -1, greatest, 1, 1},
		{least, 0, 0, greatest, 0},
	} {
		if got := Compare(r.a, r.b, r.c, r.d); got != r.want {
			t.Errorf("Compare(%d, %d, %d, %d): %d; want %d", r.a, r.b, r.c, r.d, got, r.want)
		}
	}
	for _, a := range fewer() {
		for _, b := range fewer() {
			p := new(big.Int).Mul(great(a), great(b))
			for _, c := range fewer() {
				for _, d := range fewer() {
					want := p.Cmp(new(big.Int).Mul(great(c), great(d)))
					if got := Compare(a, b, c, d); got != want {
						t.Fatalf("Compare(%d, %d, %d, %d): %d; want %d", a, b, c, d, got, want)
					}
				}
			}
		}
	}
}

// Promise 1.5: quotient and rest come to the number again.
func TestQuotientAndRest(t *testing.T) {
	for _, a := range edges() {
		for _, b := range edges() {
			if b < 1 {
				continue
			}
			quotient, e := Floor(a, b)
			rest, f := Mod(a, b)
			if e != api.OK || f != api.OK || rest < 0 || rest >= b {
				t.Fatalf("%d by %d: %d, %d, errors %d, %d", a, b, quotient, rest, e, f)
			}
			sum := new(big.Int).Mul(great(b), great(quotient))
			if sum.Add(sum, great(rest)).Cmp(great(a)) != 0 {
				t.Fatalf("%d by %d: quotient %d, rest %d", a, b, quotient, rest)
			}
		}
	}
}

// Promise 1.5: rounding up is the opposite of rounding the opposite down.
func TestUpIsDownOfTheOpposite(t *testing.T) {
	for _, a := range edges() {
		for _, b := range edges() {
			if a == least || b == 0 {
				continue
			}
			up, e := Ceil(a, b)
			down, f := Floor(-a, b)
			if e != api.OK || f != api.OK || up != -down {
				t.Fatalf("%d by %d: up %d, down of the opposite %d, errors %d, %d", a, b, up, down, e, f)
			}
		}
	}
}

// Promise 1.5: divisor times multiple is the product's size.
func TestDivisorTimesMultiple(t *testing.T) {
	for _, a := range edges() {
		for _, b := range edges() {
			divisor, e := Gcd(a, b)
			multiple, f := Lcm(a, b)
			if e != api.OK || f != api.OK {
				continue
			}
			size := new(big.Int).Mul(great(a), great(b))
			size.Abs(size)
			if size.Cmp(new(big.Int).Mul(great(divisor), great(multiple))) != 0 {
				t.Fatalf("%d and %d: divisor %d, multiple %d", a, b, divisor, multiple)
			}
		}
	}
}
