// Package fix is layer 2: see shared/doc/02-fix.md.
package fix

import (
	"math"

	"stepwell/api"
	"stepwell/sat"
)

// Round is a number by a power of two, to the nearest; of two that are equally near, the one farther from 0.
func Round(v int64, shift int) int64 {
	if !rightShift(shift) {
		return 0
	}
	var sign int64
	// Without a sign, the least integer has a size too, and half a step more does not wrap.
	var size uint64
	half := uint64(1) << shift >> 1
	if v < 0 {
		sign, size = -1, -uint64(v)
		goto round
	}
	sign, size = 1, uint64(v)
round:
	return sign * int64((size+half)>>shift)
}

// Scale is a product by a power of two, to the nearest.
func Scale(acc, mult int32, shift int) int64 {
	return Round(int64(acc)*int64(mult), shift)
}

// Right tells whether a scale is valid.
func Right(q api.Quant) bool {
	return q.Mult > 0 && rightShift(q.Shift)
}

func rightShift(shift int) bool {
	return shift >= 0 && shift <= api.MaxShift
}

// Put is a sum as a number of 8 bits.
func Put(acc int32, q api.Quant) int8 {
	return Held(acc, q, math.MinInt8, math.MaxInt8)
}

// Held is a sum as a number between two.
func Held(acc int32, q api.Quant, lo, hi int8) int8 {
	if !Right(q) {
		return 0
	}
	return sat.Clamp(Scale(acc, q.Mult, q.Shift)+int64(q.Zero), lo, hi)
}

// All is sums as numbers between two.
func All(l []int32, q api.Quant, lo, hi int8) []int8 {
	if !Right(q) {
		return nil
	}
	held := make([]int8, len(l))
	for i := range len(l) {
		held[i] = Held(l[i], q, lo, hi)
	}
	return held
}
