package reconstruct

import (
	"slices"

	"lenslet/api"
	"lenslet/lists"
	"lenslet/rational"
)

// Apply returns the product of a matrix and a list.
func Apply(m [][]api.Rat, list []api.Rat) ([]api.Rat, api.Errno) {
	rows, em := readMatrix(m, size{api.MaxSlopes, api.MaxSlopes})
	x, el := rows.size().readRow(list)
	if e := lists.FirstError(em, el); e != api.OK {
		return nil, e
	}
	return rows.write(func(row []rational.Ratio) rational.Ratio { return rational.Dot(row, x) })
}

// Compose returns the sum of coefficients times modes.
func Compose(modes [][]api.Rat, coefficients []api.Rat) ([]api.Rat, api.Errno) {
	list, em := readAnyModes(modes)
	x, ec := list.size().readColumn(coefficients)
	if e := lists.FirstError(em, ec); e != api.OK {
		return nil, e
	}
	var command []api.Rat
	for _, column := range list.columns() {
		a, e := rational.Dot(column, x).Write()
		if e != api.OK {
			return nil, e
		}
		command = append(command, a)
	}
	return command, api.OK
}

// readAnyModes returns modes of as many actuators as the first one has
// numbers, or their first error.
func readAnyModes(modes [][]api.Rat) (matrix, api.Errno) {
	if e := lists.CheckCount(len(modes), api.MaxModes); e != api.OK {
		return nil, e
	}
	return readMatrix(modes, size{api.MaxModes, api.MaxActuators})
}

// Residual returns the residual of slopes and a command.
func Residual(d [][]api.Rat, slopes, command []api.Rat) ([]api.Rat, api.Errno) {
	m, ed := readInteraction(d)
	s, es := m.size().readColumn(slopes)
	x, ec := m.size().readRow(command)
	if e := lists.FirstError(ed, es, ec); e != api.OK {
		return nil, e
	}
	return rational.WriteAll(m.residual(s, x))
}

// Cost returns the weighted sum of the squares of the residual.
func Cost(d [][]api.Rat, weights, slopes, command []api.Rat) (api.Rat, api.Errno) {
	m, ed := readInteraction(d)
	w, ew := m.size().readWeights(weights)
	s, es := m.size().readColumn(slopes)
	x, ec := m.size().readRow(command)
	if e := lists.FirstError(ed, ew, es, ec); e != api.OK {
		return "", e
	}
	return weightedSquares(m.residual(s, x), w).Write()
}

// residual returns slopes less the product of a matrix and a command.
func (m matrix) residual(slopes, command []rational.Ratio) []rational.Ratio {
	rest := slices.Clone(slopes)
	for i, x := range m.times(command) {
		rest[i] = rest[i].Sub(x)
	}
	return rest
}

// weightedSquares returns the sum of the squares of numbers times weights.
func weightedSquares(list, weights []rational.Ratio) rational.Ratio {
	squares := lists.Mapped(list, func(x rational.Ratio) rational.Ratio { return x.Mul(x) })
	return rational.Dot(squares, weights)
}

// Noise returns the variance of each row of a product with independent errors.
func Noise(m [][]api.Rat, variances []api.Rat) ([]api.Rat, api.Errno) {
	rows, em := readMatrix(m, size{api.MaxSlopes, api.MaxSlopes})
	v, ev := readList(variances, rows.size()[1], rational.ReadAmount)
	if e := lists.FirstError(em, ev); e != api.OK {
		return nil, e
	}
	return rows.write(func(row []rational.Ratio) rational.Ratio { return weightedSquares(row, v) })
}

// write returns a number for each row, or ErrLarge.
func (m matrix) write(of func(row []rational.Ratio) rational.Ratio) ([]api.Rat, api.Errno) {
	return lists.Checked(m, func(row []rational.Ratio) (api.Rat, api.Errno) { return of(row).Write() })
}

// Dropped returns a matrix without some rows.
func Dropped(d [][]api.Rat, slopes []int) ([][]api.Rat, api.Errno) {
	if e := lists.FirstError(CheckInteraction(d), checkRows(slopes, len(d))); e != api.OK {
		return nil, e
	}
	if len(slopes) == len(d) {
		return nil, api.ErrEmpty
	}
	var kept [][]api.Rat
	for i, row := range d {
		if _, dropped := slices.BinarySearch(slopes, i); !dropped {
			kept = append(kept, slices.Clone(row))
		}
	}
	return kept, api.OK
}

// checkRows returns the error of the first index of a row with one.
func checkRows(list []int, rows int) api.Errno {
	for i, index := range list {
		switch {
		case index < 0 || index >= rows:
			return api.ErrUnknown
		case i > 0 && index <= list[i-1]:
			return api.ErrOrder
		}
	}
	return api.OK
}
