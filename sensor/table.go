package sensor

import (
	"iter"

	"lenslet/api"
	"lenslet/lists"
)

// pixels visits the columns and rows of all pixels of a table, row by row.
func pixels(columns, rows int) iter.Seq[[2]int] {
	return func(yield func([2]int) bool) {
		for row := range rows {
			for column := range columns {
				if !yield([2]int{column, row}) {
					return
				}
			}
		}
	}
}

// checkRows returns the error of the first row that does not have as many
// elements as there are columns, or has an error of its own.
func checkRows[T any](table [][]T, columns int, check func(row []T) api.Errno) api.Errno {
	return lists.FirstBad(table, func(row []T) api.Errno {
		if len(row) != columns {
			return api.ErrShape
		}
		return check(row)
	})
}

// mappedRows returns the table of the results of a function for all elements.
func mappedRows[T, U any](table [][]T, of func(T) U) [][]U {
	return lists.Mapped(table, func(row []T) []U { return lists.Mapped(row, of) })
}

// checkedRows returns the table of the results of a function for all
// elements, or the error of the first element with one.
func checkedRows[T, U any](table [][]T, of func(T) (U, api.Errno)) ([][]U, api.Errno) {
	return lists.Checked(table, func(row []T) ([]U, api.Errno) { return lists.Checked(row, of) })
}
