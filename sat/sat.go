// Package sat is layer 1: see shared/doc/01-sat.md.
package sat

import (
	"math"
	"math/bits"
)

// Add8 is a sum of 8 bits, or the nearest limit.
func Add8(a, b int8) int8 {
	return Clamp(int64(a)+int64(b), math.MinInt8, math.MaxInt8)
}

// Sub8 is a difference of 8 bits, or the nearest limit.
func Sub8(a, b int8) int8 {
	return Clamp(int64(a)-int64(b), math.MinInt8, math.MaxInt8)
}

// Clamp is a number between two of 8 bits.
// The lower limit is asked first: it wins where the limits are exchanged.
func Clamp(v int64, lo, hi int8) int8 {
	if v < int64(lo) {
		return lo
	}
	if v > int64(hi) {
		return hi
	}
	return int8(v)
}

// Add32 is a sum of 32 bits, or the nearest limit.
func Add32(a, b int32) int32 {
	return limit32(int64(a) + int64(b))
}

// Mul32 is a product of 32 bits, or the nearest limit.
func Mul32(a, b int32) int32 {
	return limit32(int64(a) * int64(b))
}

func limit32(v int64) int32 {
	if v < math.MinInt32 {
		return math.MinInt32
	}
	if v > math.MaxInt32 {
		return math.MaxInt32
	}
	return int32(v)
}

// Plus is a sum, if it fits.
func Plus(a, b int) (int, bool) {
	sum := a + b
	// Only a sum of two of the same sign can wrap, and then its sign is another one.
	if (sum^a)&(sum^b) < 0 {
		return 0, false
	}
	return sum, true
}

// Times is a product, if it fits.
func Times(a, b int) (int, bool) {
	high, low := bits.Mul64(size(a), size(b))
	if high != 0 {
		return 0, false
	}
	if (a < 0) == (b < 0) {
		if low > math.MaxInt64 {
			return 0, false
		}
		return int(low), true
	}
	// There is one more number below 0 than above it.
	if low > math.MaxInt64+1 {
		return 0, false
	}
	return int(-low), true
}

// size is without a sign, so that even the least integer has one.
func size(n int) uint64 {
	if n < 0 {
		return -uint64(n)
	}
	return uint64(n)
}

// Sum is all together, if each sum on the way fits.
func Sum(l ...int) (int, bool) {
	total, ok := 0, true
	for i := range len(l) {
		total, ok = Plus(total, l[i])
		if !ok {
			return 0, false
		}
	}
	return total, true
}
