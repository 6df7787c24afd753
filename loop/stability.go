package loop

import (
	"lenslet/api"
	"lenslet/interval"
	"lenslet/lists"
	"lenslet/rational"
)

// Stable reports whether all roots of a polynomial lie within the unit circle.
func Stable(p []api.Rat) (bool, api.Errno) {
	list, e := readPoly(p)
	if e != api.OK {
		return false, e
	}
	return list.isStable(), api.OK
}

// Radius returns a span with the greatest magnitude of the roots of a polynomial.
func Radius(p []api.Rat, decimals int) (api.Span, api.Errno) {
	list, ep := readPoly(p)
	if e := lists.FirstError(ep, lists.CheckRange(decimals, 1, 3)); e != api.OK {
		return api.Span{}, e
	}
	if list.degree() == 0 {
		return api.Span{}, api.ErrNone
	}
	scale := rational.Power(10, decimals)
	most := rational.Power(10, api.MaxDigits).Mul(scale)
	end, e := least(most, func(n rational.Int) bool {
		return list.scaled(rational.Fraction(n, scale)).isStable()
	})
	if e != api.OK {
		return api.Span{}, e
	}
	before := end.Sub(rational.Whole(1))
	return interval.Interval{Low: rational.Fraction(before, scale), High: rational.Fraction(end, scale)}.Write()
}

// isStable reports whether all roots lie within the unit circle.
func (p polynomial) isStable() bool { return p.spans().areCertified() }

// spans returns the spans of the coefficients alone.
func (p polynomial) spans() spans { return lists.Mapped(p, interval.Single) }

// least returns the least integer above 0 that suffices, as all greater ones
// do; it is ErrLarge if this is above some limit.
func least(most rational.Int, suffices func(n rational.Int) bool) (rational.Int, api.Errno) {
	low, high := rational.Whole(0), rational.Whole(1)
	for !suffices(high) {
		if high.Cmp(most) >= 0 {
			return rational.Int{}, api.ErrLarge
		}
		low, high = high, high.Mul(high).Left(1)
	}
	for {
		middle := low.Add(high).Quo(rational.Whole(2))
		switch {
		case middle.Cmp(low) == 0:
			return high, api.OK
		case suffices(middle):
			high = middle
		default:
			low = middle
		}
	}
}
