package rational

import (
	"math"

	"lenslet/api"
)

// The form of a float32: bits of its significand, the exponent of its least
// bit, and the exponent of the first power of 2 that is too large.
const (
	significandBits = 24
	leastExponent   = -149
	endExponent     = 128
)

// LeastFloat returns the least float32 above 0, of which every float32 is a
// multiple.
func LeastFloat() Ratio {
	return Fraction(Whole(1), Whole(1).Left(-leastExponent))
}

// Steps returns the quotient of a float32, which is neither a NaN nor an
// infinity, and the least float32 above 0: sums of such integers need no
// common denominators.
func Steps(f float32) Int {
	_, exponent := math.Frexp(float64(f))
	exponent = max(exponent-significandBits, leastExponent)
	significand := int(math.Ldexp(float64(f), -exponent))
	return Whole(significand).Left(exponent - leastExponent)
}

// Float returns the nearest float32 to a number, or ErrLarge.
func (a Ratio) Float() (float32, api.Errno) {
	significand, exponent := rounded(a.num.Abs(), a.Den())
	if significand.BitLen()+exponent > endExponent {
		return 0, api.ErrLarge
	}
	value, _ := significand.Small()
	magnitude := float32(math.Ldexp(float64(value), exponent))
	if value != 0 && a.Sign() < 0 {
		return -magnitude, api.OK
	}
	return magnitude, api.OK
}

// rounded returns a significand and an exponent of the float nearest to the
// quotient of num, which is at least 0, and den. The significand may be that
// of the next power of 2.
func rounded(num, den Int) (Int, int) {
	exponent := max(num.BitLen()-den.BitLen()-significandBits, leastExponent)
	significand, rest, unit := split(num, den, exponent)
	if significand.BitLen() > significandBits {
		exponent++
		significand, rest, unit = split(num, den, exponent)
	}
	middle := rest.Left(1).Cmp(unit)
	if middle > 0 || middle == 0 && significand.Odd() {
		significand = significand.Add(Whole(1))
	}
	return significand, exponent
}

// split returns the integer part of the quotient of num and den times
// 2^exponent, and the rest of its division and the divisor.
func split(num, den Int, exponent int) (significand, rest, unit Int) {
	unit = den.Left(exponent)
	significand, rest = num.Left(-exponent).Div(unit)
	return significand, rest, unit
}
