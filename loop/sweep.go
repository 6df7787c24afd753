package loop

import (
	"math"

	"lenslet/api"
	"lenslet/interval"
	"lenslet/lists"
	"lenslet/rational"
)

// sweepDecimals are the decimals of the boxes of a sweep; the tolerance is
// divided by 2 to the power of toleranceExponent; and a sweep is computed as if
// no closed polynomial had a value less than its size divided by 2 to the power
// of leastExponent.
const (
	sweepDecimals     = 12
	toleranceExponent = 30
	leastExponent     = 33
)

// response is the rejection at a frequency as a quotient of boxes, and the
// size of the closed polynomial, by which tolerances are measured.
type response struct {
	above interval.Box
	below interval.Box
	size  rational.Ratio
}

// Sweep returns the rejection at n frequencies.
func Sweep(l Loop, n int) ([]complex128, api.Errno) {
	c, el := readLoop(l)
	if e := lists.FirstError(el, lists.CheckRange(n, 1, MaxSweep)); e != api.OK {
		return nil, e
	}
	if !c.closed().isStable() {
		return nil, api.ErrUnstable
	}
	return lists.Mapped(c.responses(n), response.middle), api.OK
}

// CheckSweep returns OK if complex numbers are the rejection at as many frequencies, within the tolerance.
func CheckSweep(l Loop, c []complex128) api.Errno {
	x, el := readLoop(l)
	if e := lists.FirstError(el, checkComplex(c)); e != api.OK {
		return e
	}
	if !x.closed().isStable() {
		return api.ErrUnstable
	}
	for k, r := range x.responses(len(c)) {
		if !r.accepts(c[k]) {
			return api.ErrProof
		}
	}
	return api.OK
}

// checkComplex returns the first error of complex numbers.
func checkComplex(list []complex128) api.Errno {
	if e := lists.CheckCount(len(list), MaxSweep); e != api.OK {
		return e
	}
	return lists.FirstBad(list, func(z complex128) api.Errno {
		if isFinite(real(z)) && isFinite(imag(z)) {
			return api.OK
		}
		return api.ErrForm
	})
}

func isFinite(x float64) bool { return !math.IsNaN(x) && !math.IsInf(x, 0) }

// responses returns the rejections at n frequencies.
func (c control) responses(n int) []response {
	p := c.closed()
	size := total(lists.Mapped(p, rational.Ratio.Abs)).Add(times(rational.One(), 2))
	list := make([]response, n)
	for k := range list {
		f := rational.Fraction(rational.Whole(k), rational.Whole(2*n))
		list[k] = response{c.above(f), p.at(f, sweepDecimals), size}
	}
	return list
}

// above returns the box of what is divided by the closed polynomial, at a
// frequency.
func (c control) above(f rational.Ratio) interval.Box {
	power := turnBox(times(f, c.delay+2), sweepDecimals)
	return power.Minus(turnBox(times(f, c.delay+1), sweepDecimals).By(c.leak))
}

// middle returns a complex number near the quotient. A divisor near 0 is
// replaced: then the quotient is so large that its tolerance permits this, and
// it is no infinity.
func (r response) middle() complex128 {
	above, below := middle(r.above), middle(r.below)
	size, _ := r.size.Float64()
	least := math.Ldexp(size, -leastExponent)
	if math.Hypot(real(below), imag(below)) < least {
		below = complex(least, 0)
	}
	quotient := above / below
	return complex(withoutSign(real(quotient)), withoutSign(imag(quotient)))
}

// accepts reports whether a complex number is near the quotient.
func (r response) accepts(z complex128) bool {
	re, im := rational.Exact(real(z)), rational.Exact(imag(z))
	product := interval.Box{Re: interval.Single(re), Im: interval.Single(im)}.Times(r.below)
	rest := product.Minus(r.above)
	scale := rational.Fraction(rational.Whole(1), rational.Power(2, toleranceExponent))
	tolerance := rational.One().Add(re.Abs()).Add(im.Abs()).Mul(r.size).Mul(scale)
	return rational.Max(rest.Re.Greatest(), rest.Im.Greatest()).Cmp(tolerance) <= 0
}

// middle returns the complex number in the middle of a box. Those of stable
// loops are not too large.
func middle(b interval.Box) complex128 {
	re, _ := rational.Mean([]rational.Ratio{b.Re.Low, b.Re.High}).Float64()
	im, _ := rational.Mean([]rational.Ratio{b.Im.Low, b.Im.High}).Float64()
	return complex(re, im)
}

// withoutSign returns 0 instead of -0.
func withoutSign(x float64) float64 {
	if x == 0 {
		return 0
	}
	return x
}
