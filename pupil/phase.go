package pupil

import (
	"lenslet/api"
	"lenslet/lists"
	"lenslet/rational"
)

// Flattened returns a phase without its piston, and the piston.
func Flattened(phase []api.Rat) ([]api.Rat, api.Rat, api.Errno) {
	v, e := readPhase(phase)
	if e != api.OK {
		return nil, "", e
	}
	piston := rational.Mean(v)
	flat := lists.Mapped(v, func(x rational.Ratio) rational.Ratio { return x.Sub(piston) })
	numbers, ef := rational.WriteAll(flat)
	number, ep := piston.Write()
	if e := lists.FirstError(ef, ep); e != api.OK {
		return nil, "", e
	}
	return numbers, number, api.OK
}

// Variance returns the variance of a phase.
func Variance(phase []api.Rat) (api.Rat, api.Errno) {
	v, e := readPhase(phase)
	if e != api.OK {
		return "", e
	}
	piston := rational.Mean(v)
	squares := lists.Mapped(v, func(x rational.Ratio) rational.Ratio { return x.Mul(x) })
	return rational.Mean(squares).Sub(piston.Mul(piston)).Write()
}

// Slopes returns the mean slopes of a polynomial over the cells in the pupil of a square of cells.
func Slopes(p Pupil, f Poly, corner [2]int, side int) ([2]api.Rat, api.Errno) {
	none := [2]api.Rat{}
	g, ep := readPupil(p)
	a, ef := readPoly(f)
	if e := lists.FirstError(ep, ef, checkSquare(p.Size, corner, side)); e != api.OK {
		return none, e
	}
	centres := g.centres(func(cell [2]int) bool {
		return squareContains(corner, side, cell)
	})
	if len(centres) == 0 {
		return none, api.ErrNone
	}
	x, ex := rational.Mean(a.derivedByX().valuesAt(centres)).Write()
	y, ey := rational.Mean(a.derivedByY().valuesAt(centres)).Write()
	if e := lists.FirstError(ex, ey); e != api.OK {
		return none, e
	}
	return [2]api.Rat{x, y}, api.OK
}

// readPhase returns the vector of a phase that must have elements.
func readPhase(phase []api.Rat) (vector, api.Errno) {
	v, e := readVector(phase)
	if e == api.OK && len(v) == 0 {
		return nil, api.ErrEmpty
	}
	return v, e
}

// checkSquare returns the error of a square of cells on a grid.
func checkSquare(size int, corner [2]int, side int) api.Errno {
	for _, first := range corner {
		// The difference does not overflow, as a sum might.
		if first < 0 || side < 1 || side > size-first {
			return api.ErrRange
		}
	}
	return api.OK
}

// squareContains reports whether a square of cells has a cell.
func squareContains(corner [2]int, side int, cell [2]int) bool {
	for axis, first := range corner {
		if cell[axis] < first || cell[axis] >= first+side {
			return false
		}
	}
	return true
}
