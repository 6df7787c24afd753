package number

import (
	"lenslet/api"
	"lenslet/interval"
	"lenslet/lists"
	"lenslet/rational"
)

// CheckSpan returns the first error of a span, or OK.
func CheckSpan(s api.Span) api.Errno {
	_, e := interval.Read(s)
	return e
}

// Plus returns the sum of two spans.
func Plus(a, b api.Span) (api.Span, api.Errno) { return onSpans(a, b, interval.Interval.Plus) }

// Minus returns the difference of two spans.
func Minus(a, b api.Span) (api.Span, api.Errno) { return onSpans(a, b, interval.Interval.Minus) }

// Times returns the product of two spans.
func Times(a, b api.Span) (api.Span, api.Errno) { return onSpans(a, b, interval.Interval.Times) }

// Over returns the quotient of two spans.
func Over(a, b api.Span) (api.Span, api.Errno) {
	x, y, e := readTwoSpans(a, b)
	if e != api.OK {
		return api.Span{}, e
	}
	if y.ContainsZero() {
		return api.Span{}, api.ErrZero
	}
	return x.Over(y).Write()
}

// Square returns the square of a span.
func Square(a api.Span) (api.Span, api.Errno) {
	x, e := interval.Read(a)
	if e != api.OK {
		return api.Span{}, e
	}
	return x.Square().Write()
}

// Compare compares two spans.
func Compare(a, b api.Span) (int, api.Errno) {
	x, y, e := readTwoSpans(a, b)
	switch {
	case e != api.OK:
		return 0, e
	case x.High.Cmp(y.Low) < 0:
		return -1, api.OK
	case x.Low.Cmp(y.High) > 0:
		return 1, api.OK
	case a == b && a.Low == a.High:
		return 0, api.OK
	}
	return 0, api.ErrOpen
}

// Root returns a span that contains the square root of a number.
func Root(a api.Rat, decimals int) (api.Span, api.Errno) {
	x, e := rational.Read(a)
	if e != api.OK {
		return api.Span{}, e
	}
	if x.Sign() < 0 {
		return api.Span{}, api.ErrRange
	}
	if e := checkDecimals(decimals); e != api.OK {
		return api.Span{}, e
	}
	return root(x, decimals).Write()
}

func checkDecimals(decimals int) api.Errno {
	return lists.CheckRange(decimals, 1, MaxDecimals)
}

func readTwoSpans(a, b api.Span) (interval.Interval, interval.Interval, api.Errno) {
	x, ex := interval.Read(a)
	y, ey := interval.Read(b)
	if e := lists.FirstError(ex, ey); e != api.OK {
		return interval.Interval{}, interval.Interval{}, e
	}
	return x, y, api.OK
}

// onSpans returns the result of an operation on two spans.
func onSpans(a, b api.Span, of func(x, y interval.Interval) interval.Interval) (api.Span, api.Errno) {
	x, y, e := readTwoSpans(a, b)
	if e != api.OK {
		return api.Span{}, e
	}
	return of(x, y).Write()
}

// decimalStep returns the interval from n/10^k to (n + 1)/10^k.
func decimalStep(n rational.Int, decimals int) interval.Interval {
	scale := rational.Power(10, decimals)
	next := n.Add(rational.Whole(1))
	return interval.Interval{Low: rational.Fraction(n, scale), High: rational.Fraction(next, scale)}
}

// root returns the root of a number that is at least 0.
func root(x rational.Ratio, decimals int) interval.Interval {
	num, den := x.Num().Root(), x.Den().Root()
	if num.Mul(num).Cmp(x.Num()) == 0 && den.Mul(den).Cmp(x.Den()) == 0 {
		return interval.Single(rational.Fraction(num, den))
	}
	scaled := x.Num().Mul(rational.Power(100, decimals)).Quo(x.Den())
	return decimalStep(scaled.Root(), decimals)
}
