package reconstruct

import (
	"iter"
	"slices"

	"lenslet/api"
	"lenslet/lists"
	"lenslet/rational"
)

// size is the numbers of rows and of columns of a matrix.
type size [2]int

// matrix is a matrix whose numbers are read.
type matrix [][]rational.Ratio

// readInteraction returns the interaction matrix that rows of numbers stand
// for, or their first error.
func readInteraction(d [][]api.Rat) (matrix, api.Errno) {
	return readMatrix(d, size{api.MaxSlopes, api.MaxActuators})
}

// readMatrix returns the matrix of at most this size that rows of numbers
// stand for, or their first error.
func readMatrix(m [][]api.Rat, most size) (matrix, api.Errno) {
	switch {
	case len(m) == 0 || len(m[0]) == 0:
		return nil, api.ErrEmpty
	case len(m) > most[0] || len(m[0]) > most[1]:
		return nil, api.ErrMany
	}
	return lists.Checked(m, size{len(m), len(m[0])}.readRow)
}

// readModes returns the modes of so many actuators, or their first error.
func readModes(modes [][]api.Rat, actuators int) (matrix, api.Errno) {
	if e := lists.CheckCount(len(modes), api.MaxModes); e != api.OK {
		return nil, e
	}
	return lists.Checked(modes, size{len(modes), actuators}.readRow)
}

// readRow returns the fractions of a list with a number for each column, or
// its first error.
func (s size) readRow(list []api.Rat) ([]rational.Ratio, api.Errno) {
	return readList(list, s[1], rational.Read)
}

// readColumn returns the fractions of a list with a number for each row, or
// its first error.
func (s size) readColumn(list []api.Rat) ([]rational.Ratio, api.Errno) {
	return readList(list, s[0], rational.Read)
}

// readWeights returns the fractions of weights, one for each row, or their
// first error.
func (s size) readWeights(list []api.Rat) ([]rational.Ratio, api.Errno) {
	return readList(list, s[0], rational.ReadPositive)
}

// readList returns what so many numbers stand for, or the first error.
func readList(list []api.Rat, length int, read func(api.Rat) (rational.Ratio, api.Errno)) ([]rational.Ratio, api.Errno) {
	if len(list) != length {
		return nil, api.ErrShape
	}
	return lists.Checked(list, read)
}

// size returns the size of a matrix; nil has neither rows nor columns.
func (m matrix) size() size {
	if len(m) == 0 {
		return size{}
	}
	return size{len(m), len(m[0])}
}

// columns visits the columns.
func (m matrix) columns() iter.Seq2[int, []rational.Ratio] {
	return func(yield func(int, []rational.Ratio) bool) {
		for k := range m.size()[1] {
			if !yield(k, m.column(k)) {
				return
			}
		}
	}
}

// column returns a column, which is empty if there are no rows.
func (m matrix) column(k int) []rational.Ratio {
	return lists.Mapped(m, func(row []rational.Ratio) rational.Ratio { return row[k] })
}

// row returns a row.
func (m matrix) row(i int) []rational.Ratio { return m[i] }

// times returns the product of a matrix and a list.
func (m matrix) times(list []rational.Ratio) []rational.Ratio {
	return lists.Mapped(m, func(row []rational.Ratio) rational.Ratio { return rational.Dot(row, list) })
}

// units returns the lists of n numbers of which one is 1 and the others are 0.
func units(n int) matrix {
	m := make(matrix, n)
	for i := range m {
		m[i] = make([]rational.Ratio, n)
		m[i][i] = rational.One()
	}
	return m
}

// ones returns a list of n numbers 1.
func ones(n int) []rational.Ratio { return slices.Repeat([]rational.Ratio{rational.One()}, n) }

// isZero reports whether all numbers of a list are 0.
func isZero(list []rational.Ratio) bool {
	return !slices.ContainsFunc(list, func(x rational.Ratio) bool { return x.Sign() != 0 })
}
