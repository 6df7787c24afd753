package loop

import (
	"iter"
	"slices"

	"lenslet/api"
	"lenslet/lists"
	"lenslet/rational"
)

// polynomial has the coefficients of a polynomial, of ascending powers.
type polynomial []rational.Ratio

// CheckPoly returns the first error of a polynomial, or OK.
func CheckPoly(p []api.Rat) api.Errno {
	_, e := readPoly(p)
	return e
}

// Multiply returns the product of two polynomials.
func Multiply(p, q []api.Rat) ([]api.Rat, api.Errno) {
	a, ep := readPoly(p)
	b, eq := readPoly(q)
	if e := lists.FirstError(ep, eq); e != api.OK {
		return nil, e
	}
	if a.degree()+b.degree() > api.MaxOrder {
		return nil, api.ErrMany
	}
	return rational.WriteAll(a.times(b))
}

// Value returns the value of a polynomial at a number.
func Value(p []api.Rat, x api.Rat) (api.Rat, api.Errno) {
	list, ep := readPoly(p)
	at, ex := rational.Read(x)
	if e := lists.FirstError(ep, ex); e != api.OK {
		return "", e
	}
	return rational.Dot(list, powers(at, len(list))).Write()
}

// Scaled returns the polynomial whose roots are divided by a number.
func Scaled(p []api.Rat, by api.Rat) ([]api.Rat, api.Errno) {
	list, ep := readPoly(p)
	factor, eb := rational.Read(by)
	if e := lists.FirstError(ep, eb); e != api.OK {
		return nil, e
	}
	if factor.Sign() == 0 {
		return nil, api.ErrZero
	}
	return rational.WriteAll(list.scaled(factor))
}

// readPoly returns the polynomial that numbers stand for, or their first
// error.
func readPoly(p []api.Rat) (polynomial, api.Errno) {
	if e := lists.CheckCount(len(p), api.MaxOrder+1); e != api.OK {
		return nil, e
	}
	list, e := rational.ReadAll(p)
	if e != api.OK {
		return nil, e
	}
	if list[len(list)-1].Sign() == 0 {
		return nil, api.ErrZero
	}
	return list, api.OK
}

func (p polynomial) degree() int { return len(p) - 1 }

// terms visits the powers whose coefficients are not 0, and these.
func (p polynomial) terms() iter.Seq2[int, rational.Ratio] {
	return func(yield func(int, rational.Ratio) bool) {
		for power, c := range p {
			if c.Sign() != 0 && !yield(power, c) {
				return
			}
		}
	}
}

// times returns the product.
func (p polynomial) times(q polynomial) polynomial {
	products := make([][]rational.Ratio, len(p)+len(q)-1)
	for i, a := range p.terms() {
		for j, b := range q.terms() {
			products[i+j] = append(products[i+j], a.Mul(b))
		}
	}
	return lists.Mapped(products, total)
}

// scaled returns the polynomial whose roots are divided by a number.
func (p polynomial) scaled(by rational.Ratio) polynomial {
	changed := slices.Clone(p)
	factors := powers(by, len(p))
	for power, c := range p.terms() {
		changed[power] = c.Mul(factors[power])
	}
	return changed
}

// total returns the sum of numbers.
func total(list []rational.Ratio) rational.Ratio { return lists.Sum(list, rational.Ratio.Add) }

// powers returns the first n powers of a number, from 1 on.
func powers(x rational.Ratio, n int) []rational.Ratio {
	list := make([]rational.Ratio, n)
	power := rational.One()
	for k := range n {
		list[k] = power
		power = power.Mul(x)
	}
	return list
}
