package number

import (
	"slices"

	"lenslet/api"
	"lenslet/lists"
	"lenslet/rational"
)

// CheckMatrix returns the first error of a matrix, or OK.
func CheckMatrix(m [][]api.Rat) api.Errno {
	if e := checkCount(len(m)); e != api.OK {
		return e
	}
	return lists.FirstBad(m, func(row []api.Rat) api.Errno {
		if e := checkCount(len(row)); e != api.OK {
			return e
		}
		if len(row) != len(m[0]) {
			return api.ErrShape
		}
		return lists.FirstBad(row, Check)
	})
}

// checkCount returns the error of a number of rows or columns.
func checkCount(n int) api.Errno {
	switch {
	case n == 0:
		return api.ErrEmpty
	case n > api.MaxSlopes:
		return api.ErrMany
	}
	return api.OK
}

// Multiply returns the product of two matrices.
func Multiply(a, b [][]api.Rat) ([][]api.Rat, api.Errno) {
	if e := lists.FirstError(CheckMatrix(a), CheckMatrix(b)); e != api.OK {
		return nil, e
	}
	if len(a[0]) != len(b) {
		return nil, api.ErrShape
	}
	left, right := lists.Mapped(a, readAll), lists.Mapped(b, readAll)
	return writeRows(len(a), len(b[0]), func(i, j int) rational.Ratio {
		sum := rational.Ratio{}
		for k, x := range left[i] {
			sum = sum.Add(x.Mul(right[k][j]))
		}
		return sum
	})
}

// Solve returns the only solution of linear equations.
func Solve(m [][]api.Rat, b []api.Rat) ([]api.Rat, api.Errno) {
	if e := lists.FirstError(CheckMatrix(m), lists.FirstBad(b, Check)); e != api.OK {
		return nil, e
	}
	if len(b) != len(m) {
		return nil, api.ErrShape
	}
	equations := make([][]api.Rat, len(m))
	for i, row := range m {
		equations[i] = append(slices.Clone(row), b[i])
	}
	columns := len(m[0])
	reduced := eliminated(lists.Mapped(equations, wholeRow))
	// The pivots ascend: they are in all columns but that of the right side if
	// the last of as many pivots is in the last of these columns.
	if len(reduced.pivots) != columns || reduced.pivots[columns-1] != columns-1 {
		return nil, api.ErrSingular
	}
	rows, e := writeRows(1, columns, func(_, j int) rational.Ratio {
		return reduced.fraction(j, columns)
	})
	if e != api.OK {
		return nil, e
	}
	return rows[0], api.OK
}

// Kernel returns the basis of the kernel of a matrix, in reduced echelon form.
func Kernel(m [][]api.Rat) ([][]api.Rat, api.Errno) {
	if e := CheckMatrix(m); e != api.OK {
		return nil, e
	}
	// With pivots that are searched from the last column on, each row has,
	// beside its pivot, numbers in free columns before it alone. So the vector
	// of a free column has its first number there.
	columns := len(m[0])
	rows := lists.Mapped(m, wholeRow)
	for _, row := range rows {
		slices.Reverse(row)
	}
	reduced := eliminated(rows)
	pivotRows := map[int]int{}
	for i, pivot := range reduced.pivots {
		pivotRows[columns-1-pivot] = i
	}
	free := slices.DeleteFunc(upTo(columns), func(j int) bool {
		_, ok := pivotRows[j]
		return ok
	})
	return writeRows(len(free), columns, func(i, j int) rational.Ratio {
		if row, ok := pivotRows[j]; ok {
			return reduced.fraction(row, columns-1-free[i]).Neg()
		}
		if j == free[i] {
			return part(1, 1)
		}
		return rational.Ratio{}
	})
}

// Rank returns the rank of a matrix.
func Rank(m [][]api.Rat) (int, api.Errno) {
	if e := CheckMatrix(m); e != api.OK {
		return 0, e
	}
	return len(eliminated(lists.Mapped(m, wholeRow)).pivots), api.OK
}

// readAll returns the fractions that numbers without errors stand for.
func readAll(list []api.Rat) []rational.Ratio {
	fractions, _ := rational.ReadAll(list)
	return fractions
}

// wholeRow returns the least multiple of a row whose numbers are integers.
func wholeRow(row []api.Rat) []rational.Int {
	list := readAll(row)
	multiple := rational.Denominator(list)
	return lists.Mapped(list, func(x rational.Ratio) rational.Int {
		return x.Num().Mul(multiple.Quo(x.Den()))
	})
}

// writeRows returns the matrix with these numbers, or ErrLarge.
func writeRows(rows, columns int, at func(i, j int) rational.Ratio) ([][]api.Rat, api.Errno) {
	m := make([][]api.Rat, rows)
	for i := range m {
		m[i] = make([]api.Rat, columns)
		for j := range m[i] {
			a, e := at(i, j).Write()
			if e != api.OK {
				return nil, e
			}
			m[i][j] = a
		}
	}
	return m, api.OK
}

// echelon has rows in reduced echelon form times a factor: row i has the
// factor in the column pivots[i], and all other rows have 0 there.
type echelon struct {
	rows   [][]rational.Int
	pivots []int
	factor rational.Int
}

// fraction returns the number at a row and a column of the reduced form.
func (e echelon) fraction(i, j int) rational.Ratio {
	return rational.Fraction(e.rows[i][j], e.factor)
}

// eliminated returns the reduced echelon form of at least one row. All
// numbers stay integers: each one is a determinant of numbers of the matrix,
// so that a division by the factor before has no remainder (Bareiss).
func eliminated(matrix [][]rational.Int) echelon {
	e := echelon{rows: make([][]rational.Int, len(matrix)), factor: rational.Whole(1)}
	copy(e.rows, matrix)
	for column := range matrix[0] {
		next := len(e.pivots)
		found := slices.IndexFunc(e.rows[next:], func(row []rational.Int) bool {
			return row[column].Sign() != 0
		})
		if found < 0 {
			continue
		}
		e.rows[next], e.rows[next+found] = e.rows[next+found], e.rows[next]
		e.clearColumn(next, column)
		e.pivots = append(e.pivots, column)
	}
	return e
}

// clearColumn makes the number at a row and a column the factor of all rows,
// and the others in its column 0.
func (e *echelon) clearColumn(pivotRow, column int) {
	pivot, before := e.rows[pivotRow][column], e.factor
	for i, row := range e.rows {
		if i == pivotRow {
			continue
		}
		multiple := row[column]
		combine := func(a, b rational.Int) rational.Int {
			return a.Mul(pivot).Sub(b.Mul(multiple)).Quo(before)
		}
		combined := make([]rational.Int, len(row))
		for j := range row {
			combined[j] = combine(row[j], e.rows[pivotRow][j])
		}
		e.rows[i] = combined
	}
	e.factor = pivot
}
