package loop

import (
	"slices"

	"lenslet/api"
	"lenslet/lists"
	"lenslet/rational"
)

// row is a row of a companion matrix, or of a power of one, times a unit:
// beyond the degree all numbers are 0.
type row struct {
	numbers [api.MaxOrder]rational.Int
	unit    rational.Int
}

// matrix has the rows of a power of a companion matrix.
type matrix []row

// Decay returns the norm of a power of the companion matrix of a polynomial.
func Decay(p []api.Rat, n int) (api.Rat, api.Errno) {
	list, ep := readPoly(p)
	if e := lists.FirstError(ep, lists.CheckRange(n, 0, MaxPower)); e != api.OK {
		return "", e
	}
	if list.degree() == 0 {
		return "", api.ErrNone
	}
	return list.companionPower(n).norm().Write()
}

// companionPower returns the rows of a power of the companion matrix. The
// product of this matrix and a power has the rows of the power from the second
// one on, as 1 stands right of the diagonal alone; its last row is that of the
// power times this matrix, as powers of a matrix may change places.
func (p polynomial) companionPower(n int) matrix {
	degree := p.degree()
	rows := make(matrix, degree)
	for i := range rows {
		rows[i].numbers[i] = rational.Whole(1)
		rows[i].unit = rational.Whole(1)
	}
	coefficients, _ := rational.Integers(p)
	for range n {
		next := rows[degree-1].stepped(coefficients)
		rows = append(rows[1:], next)
	}
	return rows
}

// stepped returns the product of a row and the companion matrix of the
// polynomial with these coefficients, by the last of which the unit grows:
// fractions in lowest terms would take far longer.
func (r row) stepped(coefficients []rational.Int) row {
	degree := len(coefficients) - 1
	leading, end := coefficients[degree], r.numbers[degree-1]
	next := row{unit: r.unit.Mul(leading)}
	copy(next.numbers[1:degree], r.numbers[:])
	for k, c := range coefficients[:degree] {
		next.numbers[k] = next.numbers[k].Mul(leading).Sub(end.Mul(c))
	}
	return next
}

// norm returns the greatest sum of the absolute values of a row. The unit of the
// last row is a multiple of all others.
func (m matrix) norm() rational.Ratio {
	unit := m[len(m)-1].unit
	norms := lists.Mapped(m, func(r row) rational.Int { return r.norm().Mul(unit.Quo(r.unit).Abs()) })
	return rational.Fraction(slices.MaxFunc(norms, rational.Int.Cmp), unit.Abs())
}

// norm returns the sum of the absolute values.
func (r row) norm() rational.Int {
	return lists.Sum(lists.Mapped(r.numbers[:], rational.Int.Abs), rational.Int.Add)
}
