package linear

import (
	"lenslet/lists"
	"lenslet/rational"
)

// Fit is the search for coefficients of columns whose sum is as near as
// possible to a list: the weighted sum of the squares of the differences, plus
// the damping times the sum of the squares of the coefficients, is to be least.
type Fit struct {
	// The coefficients in these units solve equations with the numbers on the
	// left, and on the right the sums of the products of these rows and the
	// list. With columns of integers the numbers are short.
	units []rational.Ratio
	left  [][]rational.Ratio
	right [][]rational.Ratio
}

// NewFit returns the fit of columns with weights above 0 and a damping of at
// least 0.
func NewFit(columns [][]rational.Ratio, weights []rational.Ratio, damping rational.Ratio) Fit {
	size := len(columns)
	f := Fit{make([]rational.Ratio, size), make([][]rational.Ratio, size), make([][]rational.Ratio, size)}
	whole := make([][]rational.Ratio, size)
	shares, unit := inUnits(weights)
	for k, column := range columns {
		whole[k], f.units[k] = inUnits(column)
		f.right[k] = make([]rational.Ratio, len(column))
		for i, share := range shares {
			f.right[k][i] = share.Mul(whole[k][i])
		}
	}
	for k := range columns {
		f.left[k] = lists.Mapped(whole, func(column []rational.Ratio) rational.Ratio {
			return rational.Dot(f.right[k], column)
		})
		perUnit := unit.Mul(f.units[k]).Mul(f.units[k])
		f.left[k][k] = f.left[k][k].Add(damping.Div(perUnit))
	}
	return f
}

// IsBest reports whether no coefficients are better for a list.
func (f Fit) IsBest(coefficients, list []rational.Ratio) bool {
	counts := make([]rational.Ratio, len(f.units))
	for k, unit := range f.units {
		counts[k] = coefficients[k].Mul(unit)
	}
	for k := range f.left {
		if rational.Dot(f.left[k], counts).Cmp(rational.Dot(f.right[k], list)) != 0 {
			return false
		}
	}
	return true
}

// Solver finds the best coefficients of a fit.
type Solver struct {
	fit     Fit
	inverse Echelon
}

// Solver returns the solver of a fit, or false if several coefficients are the
// best ones: without damping, if the columns are not independent.
func (f Fit) Solver() (Solver, bool) {
	size := len(f.left)
	equations := make([][]rational.Ratio, size)
	for k, left := range f.left {
		equations[k] = make([]rational.Ratio, 2*size)
		copy(equations[k], left)
		equations[k][size+k] = rational.One()
	}
	inverse := Eliminated(equations)
	return Solver{f, inverse}, size == 0 || inverse.Pivots[size-1] == size-1
}

// Best returns the best coefficients for a list.
func (s Solver) Best(list []rational.Ratio) []rational.Ratio {
	right := lists.Mapped(s.fit.right, func(row []rational.Ratio) rational.Ratio {
		return rational.Dot(row, list)
	})
	coefficients := make([]rational.Ratio, len(right))
	for k := range coefficients {
		count := rational.Dot(s.inverse.scaled(k, len(right)), right)
		coefficients[k] = count.Div(s.fit.units[k].Mul(rational.Integer(s.inverse.factor)))
	}
	return coefficients
}

// scaled returns the numbers of a row from a column on, times the factor of
// the form.
func (e Echelon) scaled(i, from int) []rational.Ratio {
	return lists.Mapped(e.rows[i][from:], rational.Integer)
}

// inUnits returns the least integers that are in proportion to numbers, and
// the number that they are counts of.
func inUnits(list []rational.Ratio) ([]rational.Ratio, rational.Ratio) {
	counts, unit := rational.Integers(list)
	return lists.Mapped(counts, rational.Integer), unit
}
