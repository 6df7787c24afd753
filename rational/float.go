package rational

import (
	"math"

	"lenslet/api"
)

// format is a form of floats: bits of their significand, the exponent of its
// least bit, and the exponent of the first power of 2 that is too large.
type format struct {
	bits  int
	least int
	end   int
}

// short returns the format of a float32.
func short() format { return format{24, -149, 128} }

// long returns the format of a float64.
func long() format { return format{53, -1074, 1024} }

// LeastFloat returns the least float32 above 0, of which every float32 is a
// multiple.
func LeastFloat() Ratio { return power(short().least) }

// Steps returns the quotient of a float32, which is neither a NaN nor an
// infinity, and the least float32 above 0: sums of such integers need no
// common denominators.
func Steps(f float32) Int {
	significand, exponent := short().parts(float64(f))
	return Whole(significand).Left(exponent - short().least)
}

// Exact returns the number that a float64 represents, which is neither a NaN
// nor an infinity.
func Exact(f float64) Ratio {
	significand, exponent := long().parts(f)
	return Integer(Whole(significand)).Mul(power(exponent))
}

// Float returns the nearest float32 to a number, or ErrLarge.
func (a Ratio) Float() (float32, api.Errno) {
	f, e := short().nearest(a)
	return float32(f), e
}

// Float64 returns the nearest float64 to a number, or ErrLarge.
func (a Ratio) Float64() (float64, api.Errno) { return long().nearest(a) }

// power returns 2^exponent.
func power(exponent int) Ratio {
	one := Whole(1)
	return Fraction(one.Left(exponent), one.Left(-exponent))
}

// parts returns the significand and the exponent of a float of a format.
func (f format) parts(x float64) (int, int) {
	_, exponent := math.Frexp(x)
	exponent = max(exponent-f.bits, f.least)
	return int(math.Ldexp(x, -exponent)), exponent
}

// nearest returns the float of a format that is nearest to a number, or
// ErrLarge. It is never -0.
func (f format) nearest(a Ratio) (float64, api.Errno) {
	significand, exponent := f.rounded(a.num.Abs(), a.Den())
	if significand.BitLen()+exponent > f.end {
		return 0, api.ErrLarge
	}
	value, _ := significand.Small()
	magnitude := math.Ldexp(float64(value), exponent)
	if value != 0 && a.Sign() < 0 {
		return -magnitude, api.OK
	}
	return magnitude, api.OK
}

// rounded returns a significand and an exponent of the float nearest to the
// quotient of num, which is at least 0, and den. The significand may be that
// of the next power of 2.
func (f format) rounded(num, den Int) (Int, int) {
	exponent := max(num.BitLen()-den.BitLen()-f.bits, f.least)
	significand, rest, unit := split(num, den, exponent)
	if significand.BitLen() > f.bits {
		exponent++
		significand, rest, unit = split(num, den, exponent)
	}
	middle := rest.Left(1).Cmp(unit)
	if middle > 0 || middle == 0 && significand.Odd() {
		significand = significand.Add(Whole(1))
	}
	return significand, exponent
}

// split returns the integer part of the quotient of num and den times
// 2^exponent, and the rest of its division and the divisor.
func split(num, den Int, exponent int) (significand, rest, unit Int) {
	unit = den.Left(exponent)
	significand, rest = num.Left(-exponent).Div(unit)
	return significand, rest, unit
}
