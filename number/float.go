package number

import (
	"math"

	"lenslet/api"
	"lenslet/lists"
	"lenslet/rational"
)

// The form of a float32: bits of its significand, the exponent of its least
// bit, and the exponent of the first power of 2 that is too large.
const (
	significandBits = 24
	leastExponent   = -149
	endExponent     = 128
)

// Exact returns the exact value of a float32.
func Exact(f float32) (api.Rat, api.Errno) {
	if e := checkSample(f); e != api.OK {
		return "", e
	}
	fraction, exponent := math.Frexp(float64(f))
	significand := int(fraction * (1 << significandBits))
	return scaled(significand, exponent-significandBits).Write()
}

// Float returns the nearest float32 to a number.
func Float(a api.Rat) (float32, api.Errno) {
	x, e := rational.Read(a)
	if e != api.OK {
		return 0, e
	}
	significand, exponent := rounded(x.Num().Abs(), x.Den())
	if significand.BitLen()+exponent > endExponent {
		return 0, api.ErrLarge
	}
	value, _ := significand.Small()
	magnitude := float32(math.Ldexp(float64(value), exponent))
	if value != 0 && x.Sign() < 0 {
		return -magnitude, api.OK
	}
	return magnitude, api.OK
}

// CheckSamples returns the first error of samples, or OK.
func CheckSamples(l []float32) api.Errno {
	if len(l) > api.MaxSamples {
		return api.ErrMany
	}
	return lists.FirstBad(l, checkSample)
}

func checkSample(f float32) api.Errno {
	if math.IsNaN(float64(f)) || math.IsInf(float64(f), 0) {
		return api.ErrForm
	}
	return api.OK
}

// scaled returns n times 2^exponent.
func scaled(n, exponent int) rational.Ratio {
	num := rational.Whole(n).Left(exponent)
	den := rational.Whole(1).Left(-exponent)
	return rational.Fraction(num, den)
}

// rounded returns a significand and an exponent of the float nearest to the
// quotient of num, which is at least 0, and den. The significand may be that
// of the next power of 2.
func rounded(num, den rational.Int) (rational.Int, int) {
	exponent := max(num.BitLen()-den.BitLen()-significandBits, leastExponent)
	significand, rest, unit := split(num, den, exponent)
	if significand.BitLen() > significandBits {
		exponent++
		significand, rest, unit = split(num, den, exponent)
	}
	middle := rest.Left(1).Cmp(unit)
	if middle > 0 || middle == 0 && significand.Odd() {
		significand = significand.Add(rational.Whole(1))
	}
	return significand, exponent
}

// split returns the integer part of the quotient of num and den times
// 2^exponent, and the rest of its division and the divisor.
func split(num, den rational.Int, exponent int) (significand, rest, unit rational.Int) {
	unit = den.Left(exponent)
	significand, rest = num.Left(-exponent).Div(unit)
	return significand, rest, unit
}
