// Package interval computes with spans and boxes whose ends may have any size,
// for numbers on the way to a result: the limits of package api bound
// arguments and results alone.
package interval

import (
	"lenslet/api"
	"lenslet/lists"
	"lenslet/rational"
)

// Interval is the set of all numbers from Low to High.
type Interval struct {
	Low  rational.Ratio
	High rational.Ratio
}

// Single returns the interval of one number.
func Single(x rational.Ratio) Interval { return Interval{x, x} }

// Read returns the interval that a span stands for, or its first error.
func Read(s api.Span) (Interval, api.Errno) {
	low, el := rational.Read(s.Low)
	high, eh := rational.Read(s.High)
	if e := lists.FirstError(el, eh); e != api.OK {
		return Interval{}, e
	}
	if low.Cmp(high) > 0 {
		return Interval{}, api.ErrOrder
	}
	return Interval{low, high}, api.OK
}

// Write returns the span that stands for an interval, or ErrLarge.
func (a Interval) Write() (api.Span, api.Errno) {
	low, el := a.Low.Write()
	high, eh := a.High.Write()
	if e := lists.FirstError(el, eh); e != api.OK {
		return api.Span{}, e
	}
	return api.Span{Low: low, High: high}, api.OK
}

// Plus returns the sums of a number of a and one of b.
func (a Interval) Plus(b Interval) Interval {
	return Interval{a.Low.Add(b.Low), a.High.Add(b.High)}
}

// Minus returns the differences of a number of a and one of b.
func (a Interval) Minus(b Interval) Interval { return a.Plus(b.Neg()) }

// Times returns the products of a number of a and one of b.
func (a Interval) Times(b Interval) Interval { return a.combined(b, rational.Ratio.Mul) }

// Over returns the quotients of a number of a and one of b, which does not
// contain 0.
func (a Interval) Over(b Interval) Interval { return a.combined(b, rational.Ratio.Div) }

// Neg returns the negated numbers.
func (a Interval) Neg() Interval { return Interval{a.High.Neg(), a.Low.Neg()} }

// Square returns the squares of the numbers.
func (a Interval) Square() Interval {
	least, greatest := a.Least(), a.Greatest()
	return Interval{least.Mul(least), greatest.Mul(greatest)}
}

// ContainsZero reports whether 0 is in the interval.
func (a Interval) ContainsZero() bool { return a.Low.Sign() <= 0 && a.High.Sign() >= 0 }

// Least returns the least absolute value of the numbers.
func (a Interval) Least() rational.Ratio {
	return rational.Max(rational.Ratio{}, rational.Max(a.Low, a.High.Neg()))
}

// Greatest returns the greatest absolute value of the numbers.
func (a Interval) Greatest() rational.Ratio { return rational.Max(a.Low.Neg(), a.High) }

// combined returns the interval of all results of an operation that is
// monotonic in each number: the least and the greatest one are those of ends.
func (a Interval) combined(b Interval, of func(x, y rational.Ratio) rational.Ratio) Interval {
	all := Single(of(a.Low, b.Low))
	if a.isSingle() && b.isSingle() {
		return all
	}
	all = all.including(of(a.Low, b.High))
	all = all.including(of(a.High, b.Low))
	return all.including(of(a.High, b.High))
}

func (a Interval) isSingle() bool { return a.Low.Cmp(a.High) == 0 }

// including returns the least interval that contains a and a number.
func (a Interval) including(x rational.Ratio) Interval {
	switch {
	case x.Cmp(a.Low) < 0:
		return Interval{x, a.High}
	case x.Cmp(a.High) > 0:
		return Interval{a.Low, x}
	}
	return a
}
