package sensor

import (
	"lenslet/api"
	"lenslet/lists"
	"lenslet/number"
	"lenslet/rational"
)

// maxCentroids is the greatest number of centroids of slopes.
const maxCentroids = MaxLenslets * MaxLenslets

// centroid has the coordinates of a centroid.
type centroid struct {
	x api.Rat
	y api.Rat
}

// Slopes returns the slopes of centroids with respect to a reference.
func Slopes(centroids, reference [][2]api.Rat) ([]api.Rat, api.Errno) {
	if e := lists.FirstError(checkCentroids(centroids), checkCentroids(reference)); e != api.OK {
		return nil, e
	}
	if len(centroids) != len(reference) {
		return nil, api.ErrShape
	}
	var slopes []api.Rat
	for i, c := range centroids {
		x, y, e := centroid{c[0], c[1]}.from(centroid{reference[i][0], reference[i][1]})
		if e != api.OK {
			return nil, e
		}
		slopes = append(slopes, x, y)
	}
	return slopes, api.OK
}

// Spots returns the frame with a spot at a place behind each lenslet.
func Spots(g Geometry, places [][2]api.Rat, flux api.Rat) ([][]float32, api.Errno) {
	if e := CheckGeometry(g); e != api.OK {
		return nil, e
	}
	centres, ep := g.readPlaces(places)
	light, ef := rational.ReadAmount(flux)
	if e := lists.FirstError(ep, ef); e != api.OK {
		return nil, e
	}
	return refilled(g.blank(), func(at [2]int) rational.Ratio {
		lenslet := at[1]/g.Side*g.Columns + at[0]/g.Side
		part := func(axis int) rational.Ratio {
			distance := centres[lenslet][axis].Sub(coordinate(at[axis]%g.Side, g.Side)).Abs()
			return positivePart(rational.One().Sub(distance))
		}
		return light.Mul(part(0)).Mul(part(1))
	})
}

func checkCentroids(list [][2]api.Rat) api.Errno {
	if len(list) > maxCentroids {
		return api.ErrMany
	}
	return lists.FirstBad(list, func(c [2]api.Rat) api.Errno { return lists.FirstBad(c[:], number.Check) })
}

// from returns the differences of the coordinates and those of a reference.
func (c centroid) from(reference centroid) (x, y api.Rat, e api.Errno) {
	if c == reference {
		return "0", "0", api.OK
	}
	x, ex := number.Sub(c.x, reference.x)
	y, ey := number.Sub(c.y, reference.y)
	if e := lists.FirstError(ex, ey); e != api.OK {
		return "", "", e
	}
	return x, y, api.OK
}

// readPlaces returns the coordinates of a place for each lenslet.
func (g Geometry) readPlaces(places [][2]api.Rat) ([][2]rational.Ratio, api.Errno) {
	if len(places) != g.lenslets() {
		return nil, api.ErrShape
	}
	return lists.Checked(places, g.readPlace)
}

// readPlace returns the coordinates of a place between the centres of the
// outermost pixels of a subaperture.
func (g Geometry) readPlace(place [2]api.Rat) ([2]rational.Ratio, api.Errno) {
	x, ex := rational.Read(place[0])
	y, ey := rational.Read(place[1])
	if e := lists.FirstError(ex, ey); e != api.OK {
		return [2]rational.Ratio{}, e
	}
	last := coordinate(g.Side-1, g.Side)
	if x.Abs().Cmp(last) > 0 || y.Abs().Cmp(last) > 0 {
		return [2]rational.Ratio{}, api.ErrOutside
	}
	return [2]rational.Ratio{x, y}, api.OK
}

// blank returns a frame without counts.
func (g Geometry) blank() [][]float32 {
	frame := make([][]float32, g.height())
	for row := range g.height() {
		frame[row] = make([]float32, g.width())
	}
	return frame
}
