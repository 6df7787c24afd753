package number

import (
	"slices"

	"lenslet/api"
	"lenslet/linear"
	"lenslet/lists"
	"lenslet/rational"
)

// CheckMatrix returns the first error of a matrix, or OK.
func CheckMatrix(m [][]api.Rat) api.Errno {
	if e := lists.CheckCount(len(m), api.MaxSlopes); e != api.OK {
		return e
	}
	return lists.FirstBad(m, func(row []api.Rat) api.Errno {
		if e := lists.CheckCount(len(row), api.MaxSlopes); e != api.OK {
			return e
		}
		if len(row) != len(m[0]) {
			return api.ErrShape
		}
		return lists.FirstBad(row, Check)
	})
}

// Multiply returns the product of two matrices.
func Multiply(a, b [][]api.Rat) ([][]api.Rat, api.Errno) {
	if e := lists.FirstError(CheckMatrix(a), CheckMatrix(b)); e != api.OK {
		return nil, e
	}
	if len(a[0]) != len(b) {
		return nil, api.ErrShape
	}
	left, right := lists.Mapped(a, readAll), lists.Mapped(b, readAll)
	return rational.WriteMatrix(len(a), len(b[0]), func(i, j int) rational.Ratio {
		column := lists.Mapped(right, func(row []rational.Ratio) rational.Ratio { return row[j] })
		return rational.Dot(left[i], column)
	})
}

// Solve returns the only solution of linear equations.
func Solve(m [][]api.Rat, b []api.Rat) ([]api.Rat, api.Errno) {
	if e := lists.FirstError(CheckMatrix(m), lists.FirstBad(b, Check)); e != api.OK {
		return nil, e
	}
	if len(b) != len(m) {
		return nil, api.ErrShape
	}
	equations := make([][]rational.Ratio, len(m))
	for i, row := range m {
		equations[i] = readAll(append(slices.Clone(row), b[i]))
	}
	columns := len(m[0])
	reduced := linear.Eliminated(equations)
	// The pivots ascend: they are in all columns but that of the right side if
	// the last of as many pivots is in the last of these columns.
	if len(reduced.Pivots) != columns || reduced.Pivots[columns-1] != columns-1 {
		return nil, api.ErrSingular
	}
	rows, e := rational.WriteMatrix(1, columns, func(_, j int) rational.Ratio {
		return reduced.At(j, columns)
	})
	if e != api.OK {
		return nil, e
	}
	return rows[0], api.OK
}

// Kernel returns the basis of the kernel of a matrix, in reduced echelon form.
func Kernel(m [][]api.Rat) ([][]api.Rat, api.Errno) {
	if e := CheckMatrix(m); e != api.OK {
		return nil, e
	}
	kernel := linear.KernelOf(lists.Mapped(m, readAll))
	return rational.WriteMatrix(len(kernel.Free), len(m[0]), kernel.At)
}

// Rank returns the rank of a matrix.
func Rank(m [][]api.Rat) (int, api.Errno) {
	if e := CheckMatrix(m); e != api.OK {
		return 0, e
	}
	return len(linear.Eliminated(lists.Mapped(m, readAll)).Pivots), api.OK
}

// readAll returns the fractions that numbers without errors stand for.
func readAll(list []api.Rat) []rational.Ratio {
	fractions, _ := rational.ReadAll(list)
	return fractions
}
