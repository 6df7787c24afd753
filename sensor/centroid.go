package sensor

import (
	"slices"

	"lenslet/api"
	"lenslet/lists"
	"lenslet/rational"
)

// Flux returns the sum of the counts behind each lenslet.
func Flux(g Geometry, frame [][]float32) ([]api.Rat, api.Errno) {
	if e := CheckFrame(g, frame); e != api.OK {
		return nil, e
	}
	unit := rational.LeastFloat()
	return lists.Checked(g.subapertures(frame), func(s subaperture) (api.Rat, api.Errno) {
		return s.flux().Mul(unit).Write()
	})
}

// Centroids returns the centroid behind each lenslet.
func Centroids(g Geometry, frame [][]float32) ([][2]api.Rat, api.Errno) {
	if e := CheckFrame(g, frame); e != api.OK {
		return nil, e
	}
	return centroids(g.subapertures(frame))
}

// Thresholded returns the centroids of the counts above a level.
func Thresholded(g Geometry, frame [][]float32, level api.Rat) ([][2]api.Rat, api.Errno) {
	threshold, e := rational.ReadAmount(level)
	if e := lists.FirstError(CheckFrame(g, frame), e); e != api.OK {
		return nil, e
	}
	threshold = inLeastFloats(threshold)
	return centroids(lists.Mapped(g.subapertures(frame), func(s subaperture) subaperture {
		return s.above(threshold)
	}))
}

// Uncertain returns the spans of the centroid behind a lenslet, if counts have an error.
func Uncertain(g Geometry, frame [][]float32, lenslet int, e api.Rat) ([2]api.Span, api.Errno) {
	none := [2]api.Span{}
	margin, em := rational.ReadAmount(e)
	if e := lists.FirstError(CheckFrame(g, frame), lists.CheckRange(lenslet, 0, g.lenslets()-1), em); e != api.OK {
		return none, e
	}
	margin = inLeastFloats(margin)
	counts := g.behind(frame, lenslet)
	if counts.hasNegative() {
		return none, api.ErrRange
	}
	least, greatest := counts.above(margin), counts.plus(margin)
	if least.flux().Sign() == 0 {
		return none, api.ErrZero
	}
	x, ex := centreSpan(least.lines(0), greatest.lines(0))
	y, ey := centreSpan(least.lines(1), greatest.lines(1))
	if e := lists.FirstError(ex, ey); e != api.OK {
		return none, e
	}
	return [2]api.Span{x, y}, api.OK
}

// centroids returns the centroids of subapertures. That of any of them is
// ErrZero before any is too large.
func centroids(list []subaperture) ([][2]api.Rat, api.Errno) {
	if slices.ContainsFunc(list, func(s subaperture) bool { return s.flux().Sign() <= 0 }) {
		return nil, api.ErrZero
	}
	return lists.Checked(list, func(s subaperture) ([2]api.Rat, api.Errno) {
		x, ex := centre(s.lines(0)).Write()
		y, ey := centre(s.lines(1)).Write()
		if e := lists.FirstError(ex, ey); e != api.OK {
			return [2]api.Rat{}, e
		}
		return [2]api.Rat{x, y}, api.OK
	})
}

func (s subaperture) hasNegative() bool {
	return slices.ContainsFunc(s, func(row []rational.Ratio) bool {
		return slices.ContainsFunc(row, func(count rational.Ratio) bool { return count.Sign() < 0 })
	})
}

// centreSpan returns the span from the least to the greatest centre of lines
// whose sums are between the least and the greatest ones. At both ends all
// lines on one side of some line have their greatest sums, the others their
// least ones.
func centreSpan(least, greatest []rational.Ratio) (api.Span, api.Errno) {
	low, el := slices.MinFunc(splitCentres(greatest, least), rational.Ratio.Cmp).Write()
	high, eh := slices.MaxFunc(splitCentres(least, greatest), rational.Ratio.Cmp).Write()
	if e := lists.FirstError(el, eh); e != api.OK {
		return api.Span{}, e
	}
	return api.Span{Low: low, High: high}, api.OK
}

// splitCentres returns the centres of lines of which any number of first ones
// have the sums of one list, and the rest those of another one.
func splitCentres(first, rest []rational.Ratio) []rational.Ratio {
	list := make([]rational.Ratio, len(first)+1)
	for n := range list {
		list[n] = centre(slices.Concat(first[:n], rest[n:]))
	}
	return list
}
