// Package linear solves linear equations, exactly or by least squares, with
// fractions of any size.
package linear

import (
	"slices"

	"lenslet/rational"
)

// Echelon is the reduced echelon form of the space that rows span: each row
// has 1 at its pivot, 0 before it, and 0 at the pivots of all others. Pivots
// are the columns of the pivots, ascending. Sources are the indices of rows
// that span the same space: those that are independent of the rows before.
type Echelon struct {
	Pivots  []int
	Sources []int
	// The rows times the factor are integers.
	rows   [][]rational.Int
	factor rational.Int
}

// Eliminated returns the reduced echelon form of rows of the same length.
func Eliminated(rows [][]rational.Ratio) Echelon {
	e := Echelon{factor: rational.Whole(1)}
elimination:
	for i, row := range rows {
		rest := e.rest(row)
		for column, x := range rest {
			if x.Sign() == 0 {
				continue
			}
			e.insert(rest, column)
			e.Sources = append(e.Sources, i)
			if len(e.Pivots) == len(row) {
				break elimination
			}
			continue elimination
		}
	}
	return e
}

// At returns the number at a row and a column.
func (e Echelon) At(i, j int) rational.Ratio {
	return rational.Fraction(e.rows[i][j], e.factor)
}

// Contains reports whether a row is in the space.
func (e Echelon) Contains(row []rational.Ratio) bool {
	return !slices.ContainsFunc(e.rest(row), func(x rational.Int) bool { return x.Sign() != 0 })
}

// rest returns a multiple of what remains of a row when multiples of the
// others have made it 0 at their pivots. Its numbers are determinants of
// integers that are in proportion to the rows, as are those of the others:
// they do not grow more than these (Bareiss).
func (e Echelon) rest(row []rational.Ratio) []rational.Int {
	numbers, _ := rational.Integers(row)
	rest := slices.Clone(numbers)
	for j := range rest {
		rest[j] = rest[j].Mul(e.factor)
	}
	for i, pivot := range e.Pivots {
		for j, x := range e.rows[i] {
			rest[j] = rest[j].Sub(x.Mul(numbers[pivot]))
		}
	}
	return rest
}

// insert adds a row that is 0 at all pivots, and makes the others 0 at its own
// pivot. The divisions have no remainders.
func (e *Echelon) insert(row []rational.Int, pivot int) {
	next := row[pivot]
	for i, other := range e.rows {
		combined := make([]rational.Int, len(row))
		for j := range row {
			combined[j] = other[j].Mul(next).Sub(row[j].Mul(other[pivot])).Quo(e.factor)
		}
		e.rows[i] = combined
	}
	at, _ := slices.BinarySearch(e.Pivots, pivot)
	e.Pivots = slices.Insert(e.Pivots, at, pivot)
	e.rows = slices.Insert(e.rows, at, row)
	e.factor = next
}
