package number

import (
	"lenslet/api"
	"lenslet/interval"
	"lenslet/rational"
)

// Cos returns a span that contains the cosine of a turn.
func Cos(turn api.Rat, decimals int) (api.Span, api.Errno) {
	t, e := readTurn(turn, decimals)
	if e != api.OK {
		return api.Span{}, e
	}
	return cosine(t, decimals).Write()
}

// Sin returns a span that contains the sine of a turn.
func Sin(turn api.Rat, decimals int) (api.Span, api.Errno) {
	t, e := readTurn(turn, decimals)
	if e != api.OK {
		return api.Span{}, e
	}
	return sine(t, decimals).Write()
}

// Turn returns a box that contains the complex number of magnitude 1 with the angle of a turn.
func Turn(turn api.Rat, decimals int) (api.Box, api.Errno) {
	t, e := readTurn(turn, decimals)
	if e != api.OK {
		return api.Box{}, e
	}
	return interval.Box{Re: cosine(t, decimals), Im: sine(t, decimals)}.Write()
}

// readTurn returns a turn, or the first error of a turn and decimals.
func readTurn(turn api.Rat, decimals int) (rational.Ratio, api.Errno) {
	t, e := rational.Read(turn)
	if e != api.OK {
		return rational.Ratio{}, e
	}
	if t.Den().Cmp(rational.Whole(api.MaxNumber)) > 0 {
		return rational.Ratio{}, api.ErrLarge
	}
	if e := checkDecimals(decimals); e != api.OK {
		return rational.Ratio{}, e
	}
	return t, api.OK
}

// part returns the fraction of two small integers.
func part(num, den int) rational.Ratio {
	return rational.Fraction(rational.Whole(num), rational.Whole(den))
}

// sine returns the sine of a turn: the cosine of a quarter turn less.
func sine(turn rational.Ratio, decimals int) interval.Interval {
	return cosine(turn.Sub(part(1, 4)), decimals)
}

// cosine returns the cosine of a turn with decimals.
func cosine(turn rational.Ratio, decimals int) interval.Interval {
	turn = turn.Sub(rational.Integer(turn.Floor()))
	if turn.Cmp(part(1, 2)) > 0 {
		turn = part(1, 1).Sub(turn)
	}
	if value, ok := exactCosine(turn); ok {
		return interval.Single(value)
	}
	return decimalStep(cosineSteps(turn, decimals), decimals)
}

// exactCosine returns the cosine of a turn from 0 to 1/2, if it is rational.
func exactCosine(turn rational.Ratio) (rational.Ratio, bool) {
	cosines := map[api.Rat]rational.Ratio{
		"0":   part(1, 1),
		"1/6": part(1, 2),
		"1/4": part(0, 1),
		"1/3": part(-1, 2),
		"1/2": part(-1, 1),
	}
	text, e := turn.Write()
	value, ok := cosines[text]
	return value, ok && e == api.OK
}

// cosineSteps returns the greatest integer n for which n/10^k is below the
// cosine of a turn from 0 to 1/2, which is irrational: so some precision
// shows between which two such fractions it lies. The first one does for all
// but very few cosines.
func cosineSteps(turn rational.Ratio, decimals int) rational.Int {
	precisions := [...]int{32, 64, 128}
	var steps rational.Int
growing:
	for factor := 1; ; factor *= 8 {
		for _, precision := range precisions {
			digits := factor * precision
			middle := roughCosine(turn, digits)
			margin := rational.Whole(marginPerDigit * digits)
			unit := rational.Power(10, digits-decimals)
			steps = middle.Sub(margin).Quo(unit)
			if steps.Cmp(middle.Add(margin).Quo(unit)) == 0 {
				break growing
			}
		}
	}
	return steps
}

// marginPerDigit times the digits bounds the error of roughCosine. All errors
// are in its units. A series for pi has at most 3/4 of its digits, plus 3, as
// the number of its terms, and each term errs by less than 1: pi errs by less
// than 20 times that. The angle is at most 1/2 of pi, and errs by half of the
// error of pi, plus 1. Each term of the cosine errs by less than 2, and there
// are fewer terms than digits, plus 20.
const marginPerDigit = 100

// roughCosine returns about 10^digits times the cosine of a turn from 0 to 1/2.
func roughCosine(turn rational.Ratio, digits int) rational.Int {
	quarter, half := part(1, 4), part(1, 2)
	if turn.Cmp(quarter) > 0 {
		return roughCosine(half.Sub(turn), digits).Neg()
	}
	one := rational.Power(10, digits)
	angle := roughPi(one).Mul(turn.Num()).Mul(rational.Whole(2)).Quo(turn.Den())
	square := angle.Mul(angle).Quo(one)
	sum, term := rational.Int{}, one
	for k := 1; term.Sign() > 0; k += 2 {
		if k%4 == 1 {
			sum = sum.Add(term)
		} else {
			sum = sum.Sub(term)
		}
		term = term.Mul(square).Quo(one.Mul(rational.Whole(k * (k + 1))))
	}
	return sum
}

// roughPi returns about one times pi, by Machin's formula.
func roughPi(one rational.Int) rational.Int {
	left := rational.Whole(16).Mul(roughArctan(5, one))
	return left.Sub(rational.Whole(4).Mul(roughArctan(239, one)))
}

// roughArctan returns about one times the arctangent of 1/n.
func roughArctan(n int, one rational.Int) rational.Int {
	sum, power := rational.Int{}, one.Quo(rational.Whole(n))
	for k := 1; power.Sign() > 0; k += 2 {
		term := power.Quo(rational.Whole(k))
		if k%4 == 1 {
			sum = sum.Add(term)
		} else {
			sum = sum.Sub(term)
		}
		power = power.Quo(rational.Whole(n * n))
	}
	return sum
}
