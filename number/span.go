package number

import (
	"lenslet/api"
	"lenslet/lists"
	"lenslet/rational"
)

// interval is a span whose ends may have any size.
type interval struct {
	low  rational.Ratio
	high rational.Ratio
}

// CheckSpan returns the first error of a span, or OK.
func CheckSpan(s api.Span) api.Errno {
	_, e := readSpan(s)
	return e
}

// Plus returns the sum of two spans.
func Plus(a, b api.Span) (api.Span, api.Errno) { return onSpans(a, b, interval.plus) }

// Minus returns the difference of two spans.
func Minus(a, b api.Span) (api.Span, api.Errno) { return onSpans(a, b, interval.minus) }

// Times returns the product of two spans.
func Times(a, b api.Span) (api.Span, api.Errno) { return onSpans(a, b, interval.times) }

// Over returns the quotient of two spans.
func Over(a, b api.Span) (api.Span, api.Errno) {
	x, y, e := readTwoSpans(a, b)
	if e != api.OK {
		return api.Span{}, e
	}
	if y.containsZero() {
		return api.Span{}, api.ErrZero
	}
	return x.over(y).write()
}

// Square returns the square of a span.
func Square(a api.Span) (api.Span, api.Errno) {
	x, e := readSpan(a)
	if e != api.OK {
		return api.Span{}, e
	}
	return x.square().write()
}

// Compare compares two spans.
func Compare(a, b api.Span) (int, api.Errno) {
	x, y, e := readTwoSpans(a, b)
	switch {
	case e != api.OK:
		return 0, e
	case x.high.Cmp(y.low) < 0:
		return -1, api.OK
	case x.low.Cmp(y.high) > 0:
		return 1, api.OK
	case a == b && a.Low == a.High:
		return 0, api.OK
	}
	return 0, api.ErrOpen
}

// Root returns a span that contains the square root of a number.
func Root(a api.Rat, decimals int) (api.Span, api.Errno) {
	x, e := rational.Read(a)
	if e != api.OK {
		return api.Span{}, e
	}
	if x.Sign() < 0 {
		return api.Span{}, api.ErrRange
	}
	if e := checkDecimals(decimals); e != api.OK {
		return api.Span{}, e
	}
	return root(x, decimals).write()
}

func checkDecimals(decimals int) api.Errno {
	if decimals < 1 || decimals > MaxDecimals {
		return api.ErrRange
	}
	return api.OK
}

// readSpan returns the interval that a span stands for, or its first error.
func readSpan(s api.Span) (interval, api.Errno) {
	low, high, e := readTwo(s.Low, s.High)
	if e != api.OK {
		return interval{}, e
	}
	if low.Cmp(high) > 0 {
		return interval{}, api.ErrOrder
	}
	return interval{low, high}, api.OK
}

func readTwoSpans(a, b api.Span) (interval, interval, api.Errno) {
	x, ex := readSpan(a)
	y, ey := readSpan(b)
	if e := lists.FirstError(ex, ey); e != api.OK {
		return interval{}, interval{}, e
	}
	return x, y, api.OK
}

// onSpans returns the result of an operation on two spans.
func onSpans(a, b api.Span, of func(x, y interval) interval) (api.Span, api.Errno) {
	x, y, e := readTwoSpans(a, b)
	if e != api.OK {
		return api.Span{}, e
	}
	return of(x, y).write()
}

// write returns the span that stands for an interval, or ErrLarge.
func (a interval) write() (api.Span, api.Errno) {
	low, el := a.low.Write()
	high, eh := a.high.Write()
	if e := lists.FirstError(el, eh); e != api.OK {
		return api.Span{}, e
	}
	return api.Span{Low: low, High: high}, api.OK
}

func (a interval) plus(b interval) interval  { return a.combined(b, rational.Ratio.Add) }
func (a interval) minus(b interval) interval { return a.combined(b, rational.Ratio.Sub) }
func (a interval) times(b interval) interval { return a.combined(b, rational.Ratio.Mul) }

// over returns the quotient; b does not contain 0.
func (a interval) over(b interval) interval { return a.combined(b, rational.Ratio.Div) }

// combined returns the interval of all results of an operation that is
// monotonic in each number: the least and the greatest one are those of ends.
func (a interval) combined(b interval, of operation) interval {
	first := of(a.low, b.low)
	all := interval{first, first}
	all = all.including(of(a.low, b.high))
	all = all.including(of(a.high, b.low))
	return all.including(of(a.high, b.high))
}

// including returns the least interval that contains a and a number.
func (a interval) including(x rational.Ratio) interval {
	switch {
	case x.Cmp(a.low) < 0:
		return interval{x, a.high}
	case x.Cmp(a.high) > 0:
		return interval{a.low, x}
	}
	return a
}

func (a interval) containsZero() bool { return a.low.Sign() <= 0 && a.high.Sign() >= 0 }

func (a interval) square() interval {
	low, high := a.low.Mul(a.low), a.high.Mul(a.high)
	if low.Cmp(high) > 0 {
		low, high = high, low
	}
	if a.containsZero() {
		low = rational.Ratio{}
	}
	return interval{low, high}
}

func (a interval) negated() interval { return interval{a.high.Neg(), a.low.Neg()} }

// single returns the interval of one number.
func single(x rational.Ratio) interval { return interval{x, x} }

// decimalStep returns the interval from n/10^k to (n + 1)/10^k.
func decimalStep(n rational.Int, decimals int) interval {
	scale := rational.Power(10, decimals)
	next := n.Add(rational.Whole(1))
	return interval{rational.Fraction(n, scale), rational.Fraction(next, scale)}
}

// root returns the root of a number that is at least 0.
func root(x rational.Ratio, decimals int) interval {
	num, den := x.Num().Root(), x.Den().Root()
	if num.Mul(num).Cmp(x.Num()) == 0 && den.Mul(den).Cmp(x.Den()) == 0 {
		return single(rational.Fraction(num, den))
	}
	scaled := x.Num().Mul(rational.Power(100, decimals)).Quo(x.Den())
	return decimalStep(scaled.Root(), decimals)
}
