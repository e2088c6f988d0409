package nat

import (
	"math"
	"math/bits"
)

// Multiplication and division work on limbs: digits in base 2^32, least significant first. A product of two limbs
// fits into a uint64, and there are far fewer of them than products of bytes.

// limbs returns the limbs of a. The last one is not zero.
func limbs(a string) []uint32 {
	a = Normalize(a)
	x := make([]uint32, (len(a)+3)/4)
	for i := range len(a) {
		x[i/4] |= uint32(a[i]) << (8 * (i % 4))
	}
	return x
}

// magnitude returns the canonical magnitude with the limbs x.
func magnitude(x []uint32) string {
	bytes := make([]byte, 4*len(x))
	for i := range len(bytes) {
		bytes[i] = byte(x[i/4] >> (8 * (i % 4)))
	}
	return Normalize(string(bytes))
}

// trim returns x without zero limbs at its end.
func trim(x []uint32) []uint32 {
	for i := range len(x) {
		end := len(x) - i
		if x[end-1] != 0 {
			return x[:end]
		}
	}
	return nil
}

// multiply returns x * y.
func multiply(x, y []uint32) []uint32 {
	product := make([]uint32, len(x)+len(y))
	for i := range len(x) {
		carry := uint64(0)
		for j := range len(y) {
			carry += uint64(x[i])*uint64(y[j]) + uint64(product[i+j])
			product[i+j] = uint32(carry)
			carry >>= 32
		}
		product[i+len(y)] = uint32(carry)
	}
	return product
}

// multiplyAdd replaces x by x * factor + summand, and returns it.
func multiplyAdd(x []uint32, factor, summand uint32) []uint32 {
	carry := uint64(summand)
	for i := range len(x) {
		carry += uint64(x[i]) * uint64(factor)
		x[i] = uint32(carry)
		carry >>= 32
	}
	if carry == 0 {
		return x
	}
	return append(x, uint32(carry))
}

// divideByLimb replaces x by its quotient by d, and returns the remainder. d must not be zero.
func divideByLimb(x []uint32, d uint32) uint32 {
	rest := uint64(0)
	for i := range len(x) {
		k := len(x) - 1 - i
		rest = rest<<32 | uint64(x[k])
		x[k] = uint32(rest / uint64(d))
		rest %= uint64(d)
	}
	return uint32(rest)
}

// divide returns the quotient and the remainder of x by y. The last limb of y must not be zero. It may change x.
func divide(x, y []uint32) (quotient, remainder []uint32) {
	if len(y) == 1 {
		rest := divideByLimb(x, y[0])
		return x, []uint32{rest}
	}
	if len(x) < len(y) {
		return nil, x
	}
	// A shifted divisor, whose highest bit is set, makes the estimates of the quotient's limbs nearly exact.
	shift := bits.LeadingZeros32(y[len(y)-1])
	rest := shiftLeft(x, shift)
	divisor := shiftLeft(y, shift)[:len(y)]
	quotient = make([]uint32, len(x)-len(y)+1)
	for i := range len(quotient) {
		k := len(quotient) - 1 - i
		quotient[k] = divideStep(rest[k:k+len(y)+1], divisor)
	}
	shiftRight(rest, shift)
	return quotient, rest
}

// divideStep returns the quotient of x by y and replaces x by the remainder. x must have one limb more than y, which
// has at least two and starts with a set bit, and the quotient must fit into a limb. This is the main step of Knuth's
// algorithm D.
func divideStep(x, y []uint32) uint32 {
	estimate := estimateLimb(x, y)
	if subtractMultiple(x, y, estimate) {
		estimate--
		addBack(x, y)
	}
	return uint32(estimate)
}

// estimateLimb returns the quotient of x by y or a number that is greater by one. It divides the first three limbs of
// x by the first two of y.
func estimateLimb(x, y []uint32) uint64 {
	n := len(y)
	top := uint64(x[n])<<32 | uint64(x[n-1])
	first, second := uint64(y[n-1]), uint64(y[n-2])
	estimate, rest := top/first, top%first
	for estimate > math.MaxUint32 || estimate*second > rest<<32|uint64(x[n-2]) {
		estimate--
		rest += first
		if rest > math.MaxUint32 {
			break
		}
	}
	return estimate
}

// subtractMultiple replaces x by x - factor*y, modulo the power of 2^32 that has as many limbs as x, and reports
// whether the difference is negative.
func subtractMultiple(x, y []uint32, factor uint64) bool {
	borrow := uint64(0)
	for i := range len(y) {
		borrow += factor * uint64(y[i])
		low := uint32(borrow)
		borrow >>= 32
		if x[i] < low {
			borrow++
		}
		x[i] -= low
	}
	negative := uint64(x[len(y)]) < borrow
	x[len(y)] -= uint32(borrow)
	return negative
}

// addBack replaces x by x + y, modulo the power of 2^32 that has as many limbs as x.
func addBack(x, y []uint32) {
	carry := uint64(0)
	for i := range len(y) {
		carry += uint64(x[i]) + uint64(y[i])
		x[i] = uint32(carry)
		carry >>= 32
	}
	x[len(y)] += uint32(carry)
}

// shiftLeft returns x * 2^shift with one limb more than x. The shift must be less than 32.
func shiftLeft(x []uint32, shift int) []uint32 {
	shifted := make([]uint32, len(x)+1)
	for i := range len(x) {
		wide := uint64(x[i]) << shift
		shifted[i] |= uint32(wide)
		shifted[i+1] = uint32(wide >> 32)
	}
	return shifted
}

// shiftRight replaces x by the quotient of x by 2^shift. The shift must be less than 32.
func shiftRight(x []uint32, shift int) {
	for i := range len(x) {
		wide := uint64(x[i])
		if i+1 < len(x) {
			wide |= uint64(x[i+1]) << 32
		}
		x[i] = uint32(wide >> shift)
	}
}
