package pupil

import (
	"cmp"
	"slices"

	"lenslet/api"
	"lenslet/lists"
	"lenslet/rational"
)

// polynomial is a polynomial whose numbers are read, with its parts in order.
type polynomial []part

// part is a term whose number is read.
type part struct {
	c rational.Ratio
	i int
	j int
}

// powers has the powers of X and Y of a term.
type powers [2]int

// collection has the sums of the numbers of parts that have the same powers.
type collection map[powers]rational.Ratio

// monomial returns the polynomial c X^i Y^j, for a number c that is not 0.
func monomial(c, i, j int) polynomial {
	return polynomial{{rational.Integer(rational.Whole(c)), i, j}}
}

func (p part) powers() powers { return powers{p.i, p.j} }

// multiple returns the number of a part times an integer.
func (p part) multiple(factor int) rational.Ratio {
	return p.c.Mul(rational.Integer(rational.Whole(factor)))
}

// check returns the error of a term, but for that of its order.
func (p part) check() api.Errno {
	switch {
	case p.c.Sign() == 0:
		return api.ErrZero
	case p.i < 0 || p.i > MaxDegree, p.j < 0 || p.j > MaxDegree, p.i+p.j > MaxDegree:
		return api.ErrRange
	}
	return api.OK
}

// write returns the term that stands for a part, or ErrLarge.
func (p part) write() (Term, api.Errno) {
	c, e := p.c.Write()
	if e != api.OK {
		return Term{}, e
	}
	return Term{c, p.i, p.j}, api.OK
}

// comparePowers compares the places of terms in the order of a polynomial.
func comparePowers(a, b powers) int {
	return cmp.Or(cmp.Compare(a[0]+a[1], b[0]+b[1]), cmp.Compare(b[0], a[0]))
}

// add adds a part to those that have been collected.
func (sums collection) add(p part) {
	sums[p.powers()] = sums[p.powers()].Add(p.c)
}

// ordered returns the sum of all parts that have been collected.
func (sums collection) ordered() polynomial {
	var parts polynomial
	for at, c := range sums {
		if c.Sign() != 0 {
			parts = append(parts, part{c, at[0], at[1]})
		}
	}
	slices.SortFunc(parts, func(a, b part) int { return comparePowers(a.powers(), b.powers()) })
	return parts
}

func (f polynomial) each(visit func(part)) {
	for _, p := range f {
		visit(p)
	}
}

// changed returns the sum of the parts that a function makes of those of f.
func (f polynomial) changed(change func(part) part) polynomial {
	sums := collection{}
	f.each(func(p part) { sums.add(change(p)) })
	return sums.ordered()
}

// degree returns the greatest sum of powers, and 0 for the polynomial 0.
func (f polynomial) degree() int {
	if len(f) == 0 {
		return 0
	}
	last := f[len(f)-1]
	return last.i + last.j
}

func (f polynomial) plus(g polynomial) polynomial {
	sums := collection{}
	f.each(sums.add)
	g.each(sums.add)
	return sums.ordered()
}

func (f polynomial) times(g polynomial) polynomial {
	sums := collection{}
	for _, a := range f {
		g.each(func(b part) { sums.add(part{a.c.Mul(b.c), a.i + b.i, a.j + b.j}) })
	}
	return sums.ordered()
}

// scaled returns f times an integer.
func (f polynomial) scaled(factor int) polynomial {
	return f.changed(func(p part) part { return part{p.multiple(factor), p.i, p.j} })
}

func (f polynomial) derivedByX() polynomial {
	return f.changed(func(p part) part { return part{p.multiple(p.i), p.i - 1, p.j} })
}

func (f polynomial) derivedByY() polynomial {
	return f.changed(func(p part) part { return part{p.multiple(p.j), p.i, p.j - 1} })
}

// turned returns the polynomial with the value of f at Y, -X.
func (f polynomial) turned() polynomial {
	return f.changed(func(p part) part {
		if p.j%2 == 1 {
			return part{p.c.Neg(), p.j, p.i}
		}
		return part{p.c, p.j, p.i}
	})
}

// at returns the value at a place.
func (f polynomial) at(place rational.Point) rational.Ratio {
	x, y := powersOf(place.X, f.degree()), powersOf(place.Y, f.degree())
	values := lists.Mapped(f, func(p part) rational.Ratio { return p.c.Mul(x[p.i]).Mul(y[p.j]) })
	return lists.Sum(values, rational.Ratio.Add)
}

// powersOf returns the powers of a number from 0 on.
func powersOf(x rational.Ratio, last int) []rational.Ratio {
	list := []rational.Ratio{rational.One()}
	for exponent := range last {
		list = append(list, list[exponent].Mul(x))
	}
	return list
}

// write returns the terms of a polynomial, or ErrLarge.
func (f polynomial) write() (Poly, api.Errno) { return lists.Checked(f, part.write) }
