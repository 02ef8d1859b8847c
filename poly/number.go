package poly

import "math/bits"

// number is a number of 256 bits, its lowest 64 first. That is enough for a
// tag: a remainder of P and a block make less than 2^131, and a factor is less
// than 2^124.
type number [4]uint64

// numberOf returns the number of at most 32 bytes.
func numberOf(b []byte) number {
	var n number
	for i, x := range b {
		n[i/8] |= uint64(x) << (i % 8 * 8)
	}
	return n
}

// lowest returns the lowest 16 bytes of n.
func lowest(n number) [16]byte {
	var b [16]byte
	for i := range b {
		b[i] = byte(n[i/8] >> (i % 8 * 8))
	}
	return b
}

// plus returns the sum of a and b, which is less than 2^256.
func plus(a, b number) number {
	var carry uint64
	for i := range a {
		a[i], carry = bits.Add64(a[i], b[i], carry)
	}
	return a
}

// times returns the product of a and b, which is less than 2^256.
func times(a, b number) number {
	var product number
	for i, x := range b {
		var carry uint64
		for j := range len(a) - i {
			product[i+j], carry = step(product[i+j], a[j], x, carry)
		}
	}
	return product
}

// step returns the lower and the upper half of at + a b + carry, which is less
// than 2^128 whatever they are.
func step(at, a, b, carry uint64) (lo, hi uint64) {
	hi, lo = bits.Mul64(a, b)
	lo, more := bits.Add64(lo, at, 0)
	hi += more
	lo, more = bits.Add64(lo, carry, 0)
	return lo, hi + more
}

// rest returns the remainder of n modulo P, for n less than 2^255.
func rest(n number) number {
	// What is folded is less than 2^130 + 2^128: at most one P is too much, and
	// with 5 more it shows at 2^130.
	n = fold(n)
	over := plus(n, number{5})[2] >> 2
	n = plus(n, number{5 * over})
	n[2] &= 3
	return n
}

// fold returns a smaller number with the same remainder modulo P: that of
// 2^130 is 5.
func fold(n number) number {
	low := number{n[0], n[1], n[2] & 3}
	high := number{n[2]>>2 | n[3]<<62, n[3] >> 2}
	return plus(low, times(high, number{5}))
}
