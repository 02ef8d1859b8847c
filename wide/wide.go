// Package wide is layer 1, integers of 128 bits: see shared/doc/01-wide.md.
package wide

import (
	"cmp"
	"math"
	"math/bits"

	"umbra/api"
)

// Of returns n as a wide number.
func Of(n int64) api.Wide {
	return api.Wide{Hi: n >> 63, Lo: uint64(n)}
}

// Int returns the value of a, or false if it does not fit into an int64.
func Int(a api.Wide) (n int64, ok bool) {
	n = int64(a.Lo)
	if Of(n) != a {
		return 0, false
	}
	return n, true
}

// Mul returns the product of a and b.
func Mul(a, b int64) api.Wide {
	hi, lo := bits.Mul64(uint64(a), uint64(b))
	// Read without a sign, a negative factor is too great by 2^64, which
	// makes the upper half too great by the other factor.
	top := int64(hi) - (a>>63)&b - (b>>63)&a
	return api.Wide{Hi: top, Lo: lo}
}

// Add returns the sum of its arguments, or false if a partial sum, from left
// to right, is not a wide number.
func Add(l ...api.Wide) (sum api.Wide, ok bool) {
	for _, a := range l {
		if sum, ok = plus(sum, a); !ok {
			return api.Wide{}, false
		}
	}
	return sum, true
}

// plus adds two numbers, or returns false if the sum is not a wide number.
func plus(a, b api.Wide) (api.Wide, bool) {
	lo, carry := bits.Add64(a.Lo, b.Lo, 0)
	hi := a.Hi + b.Hi + int64(carry)
	// Only two summands of one sign can leave the range, and then the sum
	// has the other sign.
	if (a.Hi^hi)&(b.Hi^hi) < 0 {
		return api.Wide{}, false
	}
	return api.Wide{Hi: hi, Lo: lo}, true
}

// Neg returns -a, or false if that is not a wide number.
func Neg(a api.Wide) (api.Wide, bool) {
	if a.Hi == math.MinInt64 && a.Lo == 0 {
		return api.Wide{}, false
	}
	return flip(a), true
}

// flip returns -a with wraparound.
func flip(a api.Wide) api.Wide {
	lo, borrow := bits.Sub64(0, a.Lo, 0)
	return api.Wide{Hi: -a.Hi - int64(borrow), Lo: lo}
}

// Cmp returns -1, 0 or 1 if a is less than, equal to or greater than b.
func Cmp(a, b api.Wide) int {
	return cmp.Or(cmp.Compare(a.Hi, b.Hi), cmp.Compare(a.Lo, b.Lo))
}

// Sign returns -1, 0 or 1 if a is negative, 0 or positive.
func Sign(a api.Wide) int {
	return Cmp(a, api.Wide{})
}

// Shr returns a divided by 2^n, rounded down; a negative n counts as 0.
func Shr(a api.Wide, n int) api.Wide {
	n = max(n, 0)
	if n >= 64 {
		return api.Wide{Hi: a.Hi >> 63, Lo: uint64(a.Hi >> (n - 64))}
	}
	return api.Wide{Hi: a.Hi >> n, Lo: a.Lo>>n | uint64(a.Hi)<<(64-n)}
}

// Div returns a divided by d and rounded down, and what remains, or false if
// d is 0 or the quotient is not a wide number.
func Div(a api.Wide, d int64) (q api.Wide, r int64, ok bool) {
	if d == 0 {
		return api.Wide{}, 0, false
	}
	size := magnitude(d)
	q, rest := divide(a, size)
	if (a.Hi < 0) == (d < 0) {
		// Of two numbers of one sign, only -2^127 and -1 have a quotient of
		// 2^127, which wraps round.
		if q.Hi < 0 {
			return api.Wide{}, 0, false
		}
		return q, signed(rest, d), true
	}
	q = flip(q)
	if rest != 0 {
		q, _ = plus(q, Of(-1))
		rest = size - rest
	}
	return q, signed(rest, d), true
}

// divide divides the absolute value of a by size, which is not 0; a quotient
// of 2^127 wraps round to -2^127.
func divide(a api.Wide, size uint64) (q api.Wide, rest uint64) {
	if a.Hi < 0 {
		a = flip(a)
	}
	hi := uint64(a.Hi)
	lo, rest := bits.Div64(hi%size, a.Lo, size)
	return api.Wide{Hi: int64(hi / size), Lo: lo}, rest
}

// magnitude returns the absolute value of n, which for the least int64 is not
// an int64.
func magnitude(n int64) uint64 {
	if n < 0 {
		return -uint64(n)
	}
	return uint64(n)
}

// signed returns rest with the sign of d.
func signed(rest uint64, d int64) int64 {
	if d < 0 {
		return -int64(rest)
	}
	return int64(rest)
}

// Sqrt returns the greatest integer whose square is at most a, and 0 if a is
// negative.
func Sqrt(a api.Wide) uint64 {
	if a.Hi < 0 {
		return 0
	}
	var root uint64
	for i := range 64 {
		next := root | 1<<(63-i)
		if squareFits(next, a) {
			root = next
		}
	}
	return root
}

// squareFits tells whether the square of n is at most a, which is not
// negative. The square itself need not be a wide number.
func squareFits(n uint64, a api.Wide) bool {
	hi, lo := bits.Mul64(n, n)
	top := uint64(a.Hi)
	return hi < top || hi == top && lo <= a.Lo
}

// MulDiv returns a b divided by c, rounded down, or the nearest int64 if that
// is not an int64; 0 if c is 0.
func MulDiv(a, b, c int64) int64 {
	// A product of two int64 is so far from -2^127 that every quotient of it
	// is a wide number: Div refuses c = 0 alone.
	q, _, ok := Div(Mul(a, b), c)
	if !ok {
		return 0
	}
	if n, ok := Int(q); ok {
		return n
	}
	if q.Hi < 0 {
		return math.MinInt64
	}
	return math.MaxInt64
}
