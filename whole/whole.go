// Package whole is layer 1: whole numbers of 64 bits that do not go round (shared/doc/01-whole.md).
package whole

import (
	"math"
	"math/bits"

	"carrefour/api"
)

// Add tells a sum.
func Add(a, b int64) (int64, api.Errno) {
	sum := a + b
	// A sum that went round has another sign than both of its parts.
	if (a < 0) == (b < 0) && (sum < 0) != (a < 0) {
		return 0, api.ErrOver
	}
	return sum, api.OK
}

// Sub tells a difference.
func Sub(a, b int64) (int64, api.Errno) {
	rest := a - b
	// Only numbers of unlike signs lie too far from each other.
	if (a < 0) != (b < 0) && (rest < 0) != (a < 0) {
		return 0, api.ErrOver
	}
	return rest, api.OK
}

// Mul tells a product.
func Mul(a, b int64) (int64, api.Errno) {
	p := times(a, b)
	low := int64(p.low)
	if p != widen(low) {
		return 0, api.ErrOver
	}
	return low, api.OK
}

// Neg tells the opposite.
func Neg(a int64) (int64, api.Errno) {
	if a == math.MinInt64 {
		return 0, api.ErrOver
	}
	return -a, api.OK
}

// Floor tells a quotient, rounded down.
func Floor(a, b int64) (int64, api.Errno) {
	if e := refuses(a, b); e != api.OK {
		return 0, e
	}
	quotient := a / b
	if a%b != 0 && (a < 0) != (b < 0) {
		quotient--
	}
	return quotient, api.OK
}

// Ceil tells a quotient, rounded up.
func Ceil(a, b int64) (int64, api.Errno) {
	if e := refuses(a, b); e != api.OK {
		return 0, e
	}
	quotient := a / b
	if a%b != 0 && (a < 0) == (b < 0) {
		quotient++
	}
	return quotient, api.OK
}

// refuses tells why a / b can't be told. (-2^63 by -1 is the one quotient that does not fit.)
func refuses(a, b int64) api.Errno {
	if b == 0 {
		return api.ErrZero
	}
	if a == math.MinInt64 && b == -1 {
		return api.ErrOver
	}
	return api.OK
}

// Mod tells the rest.
func Mod(a, b int64) (int64, api.Errno) {
	if b < 1 {
		return 0, api.ErrArg
	}
	rest := a % b
	if rest < 0 {
		rest += b
	}
	return rest, api.OK
}

// Scale tells a b / c, rounded down.
func Scale(a, b, c int64) (int64, api.Errno) {
	if c < 1 {
		return 0, api.ErrArg
	}
	p := times(a, b)
	if p.high < 0 {
		return scaleBelow(p.opposite(), c)
	}
	n, ok := p.over(c)
	if !ok || n > math.MaxInt64 {
		return 0, api.ErrOver
	}
	return int64(n), api.OK
}

// scaleBelow tells the opposite of p / c, rounded down; p is above 0. Its size is rounded up, so c - 1 is added ahead of the division.
func scaleBelow(p product, c int64) (int64, api.Errno) {
	n, ok := p.plus(uint64(c - 1)).over(c)
	if !ok || n > 1<<63 {
		return 0, api.ErrOver
	}
	return int64(-n), api.OK
}

// Gcd tells the greatest common divisor.
func Gcd(a, b int64) (int64, api.Errno) {
	x, y := size(a), size(b)
	for y != 0 {
		x, y = y, x%y
	}
	if x > math.MaxInt64 {
		return 0, api.ErrOver
	}
	return int64(x), api.OK
}

// Lcm tells the least common multiple.
func Lcm(a, b int64) (int64, api.Errno) {
	if a == 0 || b == 0 {
		return 0, api.OK
	}
	divisor, e := Gcd(a, b)
	if e != api.OK { // both are -2^63: so great is their multiple, too
		return 0, e
	}
	// The quotient first: the product of both may be too great where the multiple is not.
	multiple, e := Mul(a/divisor, b)
	if e != api.OK {
		return 0, e
	}
	if multiple < 0 {
		return Neg(multiple)
	}
	return multiple, api.OK
}

// Sqrt tells a root, rounded down.
func Sqrt(n int64) (int64, api.Errno) {
	if n < 0 {
		return 0, api.ErrArg
	}
	root := uint64(0)
	// Bit by bit in whole numbers: a float would round near great squares.
	for bit := uint64(1) << 31; bit > 0; bit >>= 1 {
		if next := root | bit; next*next <= uint64(n) {
			root = next
		}
	}
	return int64(root), api.OK
}

// Compare compares two products.
func Compare(a, b, c, d int64) int {
	p, q := times(a, b), times(c, d)
	switch {
	case p == q:
		return 0
	case p.below(q):
		return -1
	}
	return 1
}

// size tells how far a number is from 0; it holds 2^63, too.
func size(a int64) uint64 {
	if a < 0 {
		return -uint64(a)
	}
	return uint64(a)
}

// product is a number of 128 bits, high times 2^64 + low: two factors of 64 bits never leave it.
type product struct {
	high int64
	low  uint64
}

// times tells a b whole.
func times(a, b int64) product {
	high, low := bits.Mul64(uint64(a), uint64(b))
	// Read without a sign, a factor below 0 is 2^64 too great: the other one was counted once too often in the high half.
	if a < 0 {
		high -= uint64(b)
	}
	if b < 0 {
		high -= uint64(a)
	}
	return product{int64(high), low}
}

// widen tells a number of 64 bits as one of 128.
func widen(a int64) product {
	return product{a >> 63, uint64(a)}
}

func (p product) below(q product) bool {
	if p.high != q.high {
		return p.high < q.high
	}
	return p.low < q.low
}

// opposite fits, as a product is at most 2^126 in size.
func (p product) opposite() product {
	low, borrow := bits.Sub64(0, p.low, 0)
	high, _ := bits.Sub64(0, uint64(p.high), borrow)
	return product{int64(high), low}
}

// plus fits, as a product is at most 2^126 in size.
func (p product) plus(n uint64) product {
	low, carry := bits.Add64(p.low, n, 0)
	return product{p.high + int64(carry), low}
}

// over tells p / c rounded down, for p from 0 on and c from 1 on, and whether it fits 64 bits without a sign.
func (p product) over(c int64) (uint64, bool) {
	if p.high >= c {
		return 0, false
	}
	quotient, _ := bits.Div64(uint64(p.high), p.low, uint64(c))
	return quotient, true
}
