package pupil

import (
	"iter"

	"lenslet/api"
	"lenslet/lists"
	"lenslet/rational"
)

// grid is a pupil whose numbers are read.
type grid struct {
	size        int
	outerSquare rational.Ratio
	innerSquare rational.Ratio
	blades      []blade
}

// blade is a vane whose numbers are read.
type blade struct {
	cosine rational.Ratio
	sine   rational.Ratio
	half   rational.Ratio
}

// centre is the place of a cell.
type centre struct {
	x rational.Ratio
	y rational.Ratio
}

// write returns the place that a centre stands for, or ErrLarge.
func (at centre) write() (api.Place, api.Errno) {
	x, ex := at.x.Write()
	y, ey := at.y.Write()
	if e := lists.FirstError(ex, ey); e != api.OK {
		return api.Place{}, e
	}
	return api.Place{X: x, Y: y}, api.OK
}

// cells visits the columns and rows of the cells in the pupil, row by row.
func (g grid) cells() iter.Seq[[2]int] {
	return func(yield func([2]int) bool) {
		for row := range g.size {
		columns:
			for column := range g.size {
				cell := [2]int{column, row}
				at := g.centre(cell)
				if !g.discContains(at) {
					continue
				}
				for _, b := range g.blades {
					if b.covers(at) {
						continue columns
					}
				}
				if !yield(cell) {
					return
				}
			}
		}
	}
}

// centre returns the centre of a cell.
func (g grid) centre(cell [2]int) centre {
	return centre{g.coordinate(cell[0]), g.coordinate(cell[1])}
}

func (g grid) coordinate(index int) rational.Ratio {
	return rational.Fraction(rational.Whole(2*index+1-g.size), rational.Whole(g.size))
}

// centres returns the centres of the cells in the pupil that also satisfy a
// condition.
func (g grid) centres(condition func(cell [2]int) bool) []centre {
	var list []centre
	for cell := range g.cells() {
		if condition(cell) {
			list = append(list, g.centre(cell))
		}
	}
	return list
}

// allCentres returns the centres of all cells in the pupil.
func (g grid) allCentres() []centre {
	return g.centres(func([2]int) bool { return true })
}

// discContains reports whether a place lies in the disc, and not in its hole.
func (g grid) discContains(at centre) bool {
	distance := at.x.Mul(at.x).Add(at.y.Mul(at.y))
	return distance.Cmp(g.innerSquare) >= 0 && distance.Cmp(g.outerSquare) <= 0
}

// covers reports whether a vane covers a place.
func (b blade) covers(at centre) bool {
	along := at.x.Mul(b.cosine).Add(at.y.Mul(b.sine))
	across := at.y.Mul(b.cosine).Sub(at.x.Mul(b.sine))
	return along.Sign() >= 0 && across.Abs().Cmp(b.half) < 0
}
