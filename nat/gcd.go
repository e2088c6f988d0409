package nat

import "math/bits"

// Gcd returns the greatest common divisor of a and b.
func Gcd(a, b string) string {
	m, mFits := Uint64(a)
	n, nFits := Uint64(b)
	if mFits && nFits {
		return FromUint64(gcdOfWords(m, n))
	}
	return magnitude(gcdOfLimbs(limbs(a), limbs(b)))
}

// gcdOfWords returns the greatest common divisor of m and n.
func gcdOfWords(m, n uint64) uint64 {
	for n != 0 {
		m, n = n, m%n
	}
	return m
}

// gcdOfLimbs returns the greatest common divisor of x and y. It may change both.
func gcdOfLimbs(x, y []uint32) []uint32 {
	if len(x) < len(y) {
		x, y = y, x
	}
	// One division makes the lengths similar: oddGcd takes a step for each bit of the longer number.
	if len(y) > 0 && len(x) > len(y) {
		_, remainder := divide(x, y)
		x, y = y, trim(remainder)
	}
	if len(y) == 0 {
		return x
	}
	xTwos, yTwos := trailingZeros(x), trailingZeros(y)
	odd := oddGcd(dropLowBits(x, xTwos), dropLowBits(y, yTwos))
	twos := min(xTwos, yTwos)
	return append(make([]uint32, twos/32), shiftLeft(odd, twos%32)...)
}

// oddGcd returns the greatest common divisor of two odd numbers, which it may change. It is the binary algorithm: on
// numbers of several limbs, its subtractions and shifts are faster than Euclid's divisions.
func oddGcd(x, y []uint32) []uint32 {
	for len(x) > 0 {
		if less(x, y) {
			x, y = y, x
		}
		subtract(x, y)
		x = trim(x)
		x = dropLowBits(x, trailingZeros(x))
	}
	return y
}

// trailingZeros returns the number of zero bits below the lowest set bit of x, or 0 if x is zero.
func trailingZeros(x []uint32) int {
	for i := range len(x) {
		if x[i] != 0 {
			return 32*i + bits.TrailingZeros32(x[i])
		}
	}
	return 0
}

// dropLowBits returns the quotient of x by 2^count, in the memory of x. x must have at least count bits.
func dropLowBits(x []uint32, count int) []uint32 {
	x = x[count/32:]
	shiftRight(x, count%32)
	return trim(x)
}

// less reports whether x < y. Neither may end with a zero limb.
func less(x, y []uint32) bool {
	if len(x) != len(y) {
		return len(x) < len(y)
	}
	for i := range len(x) {
		k := len(x) - 1 - i
		if x[k] != y[k] {
			return x[k] < y[k]
		}
	}
	return false
}

// subtract replaces x by x - y. y must not be greater than x or longer.
func subtract(x, y []uint32) {
	borrow := uint32(0)
	for i := range len(x) {
		limb := uint32(0)
		if i < len(y) {
			limb = y[i]
		}
		x[i], borrow = bits.Sub32(x[i], limb, borrow)
	}
}
