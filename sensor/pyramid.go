package sensor

import (
	"slices"

	"lenslet/api"
	"lenslet/lists"
	"lenslet/number"
	"lenslet/rational"
)

// maxPyramid is the greatest side of a field with images of a pyramid.
const maxPyramid = 4

// gaussian is a complex number with integer parts.
type gaussian struct {
	re int
	im int
}

// quadrants has values of the four images of a pyramid at a pixel.
type quadrants [4]rational.Ratio

// Images returns the intensities of the four images of a pyramid.
func Images(phases [][]int) ([4][][]api.Rat, api.Errno) {
	none := [4][][]api.Rat{}
	if e := checkPhases(phases, maxPyramid); e != api.OK {
		return none, e
	}
	side := len(phases)
	quarter := 4 / side // the quarter turns of a step
	field := mappedRows(phases, gaussian{1, 0}.turned)
	back := func(u gaussian, steps int) gaussian { return u.turned(-steps * quarter) }
	forth := func(u gaussian, steps int) gaussian { return u.turned(steps * quarter) }
	waves := transformed(field, back, gaussian.plus)
	images := none
	for q := range images {
		light := transformed(quadrant(waves, q), forth, gaussian.plus)
		image, e := checkedRows(light, func(u gaussian) (api.Rat, api.Errno) {
			return number.Of(u.square(), side*side*side*side)
		})
		if e != api.OK {
			return none, e
		}
		images[q] = image
	}
	return images, api.OK
}

// Signals returns the signals of the four images of a pyramid.
func Signals(images [4][][]api.Rat) ([][][2]api.Rat, api.Errno) {
	values, e := readImages(images)
	if e != api.OK {
		return nil, e
	}
	sums := lists.Mapped(slices.Concat(values...), quadrants.sum)
	mean := rational.Mean(sums)
	if mean.Sign() == 0 {
		return nil, api.ErrZero
	}
	return checkedRows(values, func(q quadrants) ([2]api.Rat, api.Errno) {
		x, ex := q.horizontal().Div(mean).Write()
		y, ey := q.vertical().Div(mean).Write()
		if e := lists.FirstError(ex, ey); e != api.OK {
			return [2]api.Rat{}, e
		}
		return [2]api.Rat{x, y}, api.OK
	})
}

func (u gaussian) plus(v gaussian) gaussian { return gaussian{u.re + v.re, u.im + v.im} }

// square returns the squared magnitude.
func (u gaussian) square() int { return u.re*u.re + u.im*u.im }

// turned returns the number turned by quarters.
func (u gaussian) turned(quarters int) gaussian {
	switch quarters & 3 {
	case 1:
		return gaussian{-u.im, u.re}
	case 2:
		return gaussian{-u.re, -u.im}
	case 3:
		return gaussian{u.im, -u.re}
	}
	return u
}

// quadrant returns the waves of a quadrant, and 0 instead of the others.
func quadrant(waves [][]gaussian, q int) [][]gaussian {
	half := len(waves) / 2
	part := mappedRows(waves, func(gaussian) gaussian { return gaussian{} })
	for at := range pixels(half, half) {
		column, row := at[0]+q%2*half, at[1]+q/2*half
		part[row][column] = waves[row][column]
	}
	return part
}

// readImages returns the values of four images, pixel by pixel.
func readImages(images [4][][]api.Rat) ([][]quadrants, api.Errno) {
	if e := checkSide(len(images[0]), MaxField); e != api.OK {
		return nil, e
	}
	side := len(images[0])
	all := mappedRows(images[0], func(api.Rat) quadrants { return quadrants{} })
	for q, image := range images {
		values, e := readImage(image, side)
		if e != api.OK {
			return nil, e
		}
		for at := range pixels(side, side) {
			all[at[1]][at[0]][q] = values[at[1]][at[0]]
		}
	}
	return all, api.OK
}

// readImage returns the values of an image with some side.
func readImage(image [][]api.Rat, side int) ([][]rational.Ratio, api.Errno) {
	if len(image) != side {
		return nil, api.ErrShape
	}
	return lists.Checked(image, func(row []api.Rat) ([]rational.Ratio, api.Errno) {
		if len(row) != side {
			return nil, api.ErrShape
		}
		return rational.ReadAll(row)
	})
}

func (q quadrants) sum() rational.Ratio { return lists.Sum(q[:], rational.Ratio.Add) }

// horizontal returns I + III - II - IV.
func (q quadrants) horizontal() rational.Ratio { return q[0].Add(q[2]).Sub(q[1].Add(q[3])) }

// vertical returns I + II - III - IV.
func (q quadrants) vertical() rational.Ratio { return q[0].Add(q[1]).Sub(q[2].Add(q[3])) }
