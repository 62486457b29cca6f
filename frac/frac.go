// Package frac is layer 1: fractions that are compared without a division, sums and products that are refused where 64 bits don't hold them, and logarithms of two. See shared/doc/01-frac.md.
package frac

import (
	"cmp"
	"math"
	"math/bits"

	"shelfmark/api"
)

// smallBound keeps products of two small numbers below 2^52, and sums of two such below 2^53: floats hold them exactly, and so do complex numbers.
const smallBound = 1 << 26

// Cross is the sign of a times d, less b times c: how the fraction a / b stands to c / d, where b and d are above 0.
func Cross(a, b, c, d int) (int, api.Errno) {
	if !small(a, b, c, d) {
		return 0, api.ErrOver
	}
	product := turnedOver(complex(float64(a), float64(b))) * complex(float64(c), float64(d))
	return cmp.Compare(imag(product), 0), api.OK
}

// Add is the sum, if it is a number of 64 bits.
func Add(a, b int) (int, api.Errno) {
	sum := a + b
	// Numbers of different signs never run over; of the same sign, a sum that ran over has the other one.
	if (a < 0) == (b < 0) && (sum < 0) != (a < 0) {
		return 0, api.ErrOver
	}
	return sum, api.OK
}

// Mul is the product, if it is a number of 64 bits.
func Mul(a, b int) (int, api.Errno) {
	greatest := uint64(math.MaxInt64)
	if (a < 0) != (b < 0) {
		greatest++ // the least number lies one farther from 0 than the greatest
	}
	high, low := bits.Mul64(distance(a), distance(b))
	if high != 0 || low > greatest {
		return 0, api.ErrOver
	}
	return a * b, api.OK
}

// Up is the logarithm upward: the least k with 2^k at least n.
func Up(n int) (int, api.Errno) {
	k, e := Down(n)
	if e == api.OK && !Power(n) {
		k++
	}
	return k, e
}

// Down is the logarithm downward: the greatest k with 2^k at most n.
func Down(n int) (int, api.Errno) {
	if n < 1 {
		return 0, api.ErrArg
	}
	// Halving stays within 64 bits at the greatest number too; doubling a power up to it would not.
	k := 0
halve:
	if n > 1 {
		n /= 2
		k++
		goto halve
	}
	return k, api.OK
}

// Power tells whether n is a power of two.
func Power(n int) bool {
	return n > 0 && n&(n-1) == 0
}

// Between is the number that lies at of steps from low to high, steps times, so that nothing is lost by a division.
func Between(low, high, at, steps int) (int, api.Errno) {
	if steps < 1 || at < 0 || at > steps {
		return 0, api.ErrArg
	}
	if !small(low, high, at, steps) {
		return 0, api.ErrOver
	}
	return low*(steps-at) + high*at, api.OK
}

// small tells whether all of the numbers are small.
func small(numbers ...int) bool {
	for _, n := range numbers {
		if n <= -smallBound || n >= smallBound {
			return false
		}
	}
	return true
}

// turnedOver has the imaginary part of z turned over: times another number, the imaginary part is then the cross product.
func turnedOver(z complex128) complex128 {
	return complex(real(z), -imag(z))
}

// distance is how far n is from 0; it is unsigned, as that of the least number is no int.
func distance(n int) uint64 {
	if n < 0 {
		return -uint64(n)
	}
	return uint64(n)
}
