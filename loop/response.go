package loop

import (
	"lenslet/api"
	"lenslet/interval"
	"lenslet/lists"
	"lenslet/number"
	"lenslet/rational"
)

// Rejection returns a span with the squared magnitude of the rejection at a frequency.
func Rejection(l Loop, turn api.Rat, decimals int) (api.Span, api.Errno) {
	c, el := readLoop(l)
	f, et := rational.Read(turn)
	if e := lists.FirstError(el, et, lists.CheckRange(decimals, 1, number.MaxDecimals)); e != api.OK {
		return api.Span{}, e
	}
	if f.Den().Cmp(rational.Whole(api.MaxNumber)) > 0 {
		return api.Span{}, api.ErrLarge
	}
	above := turnBox(f, decimals)
	above.Re = above.Re.Minus(interval.Single(c.leak))
	below := c.closed().at(f, decimals).Norm()
	if below.ContainsZero() {
		return api.Span{}, api.ErrZero
	}
	return above.Norm().Over(below).Write()
}

// at returns the box of the value of a polynomial at a frequency.
func (p polynomial) at(f rational.Ratio, decimals int) interval.Box {
	var products []interval.Box
	for power, c := range p.terms() {
		products = append(products, turnBox(times(f, power), decimals).By(c))
	}
	return lists.Sum(products, interval.Box.Plus)
}

// turnBox returns the box of a turn whose denominator is at most MaxNumber.
func turnBox(turn rational.Ratio, decimals int) interval.Box {
	// Without whole turns the numerator is not too large, and there is no error.
	rest, _ := turn.Sub(rational.Integer(turn.Floor())).Write()
	turned, _ := number.Turn(rest, decimals)
	box, _ := interval.ReadBox(turned)
	return box
}

// times returns a multiple of a number.
func times(x rational.Ratio, n int) rational.Ratio { return x.Mul(rational.Integer(rational.Whole(n))) }
