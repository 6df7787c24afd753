package pupil

import (
	"iter"

	"lenslet/rational"
)

// grid is a pupil whose numbers are read.
type grid struct {
	size        int
	outerSquare rational.Ratio
	innerSquare rational.Ratio
	blades      []blade
}

// blade is a vane whose numbers are read.
type blade struct {
	cosine rational.Ratio
	sine   rational.Ratio
	half   rational.Ratio
}

// cells visits the columns and rows of the cells in the pupil, row by row.
func (g grid) cells() iter.Seq[[2]int] {
	return func(yield func([2]int) bool) {
		for row := range g.size {
		columns:
			for column := range g.size {
				cell := [2]int{column, row}
				at := g.centre(cell)
				if !g.discContains(at) {
					continue
				}
				for _, b := range g.blades {
					if b.covers(at) {
						continue columns
					}
				}
				if !yield(cell) {
					return
				}
			}
		}
	}
}

// centre returns the centre of a cell.
func (g grid) centre(cell [2]int) rational.Point {
	return rational.Point{X: g.coordinate(cell[0]), Y: g.coordinate(cell[1])}
}

func (g grid) coordinate(index int) rational.Ratio {
	return rational.Fraction(rational.Whole(2*index+1-g.size), rational.Whole(g.size))
}

// centres returns the centres of the cells in the pupil that also satisfy a
// condition.
func (g grid) centres(condition func(cell [2]int) bool) []rational.Point {
	var list []rational.Point
	for cell := range g.cells() {
		if condition(cell) {
			list = append(list, g.centre(cell))
		}
	}
	return list
}

// allCentres returns the centres of all cells in the pupil.
func (g grid) allCentres() []rational.Point {
	return g.centres(func([2]int) bool { return true })
}

// discContains reports whether a place lies in the disc, and not in its hole.
func (g grid) discContains(at rational.Point) bool {
	distance := at.Square()
	return distance.Cmp(g.innerSquare) >= 0 && distance.Cmp(g.outerSquare) <= 0
}

// covers reports whether a vane covers a place.
func (b blade) covers(at rational.Point) bool {
	along := at.X.Mul(b.cosine).Add(at.Y.Mul(b.sine))
	across := at.Y.Mul(b.cosine).Sub(at.X.Mul(b.sine))
	return along.Sign() >= 0 && across.Abs().Cmp(b.half) < 0
}
