package rational

import (
	"lenslet/api"
	"lenslet/lists"
)

// Point is a place of the plane whose coordinates are read.
type Point struct {
	X Ratio
	Y Ratio
}

// ReadPoint returns the point that a place stands for, or the first error of
// its coordinates.
func ReadPoint(at api.Place) (Point, api.Errno) {
	x, ex := Read(at.X)
	y, ey := Read(at.Y)
	if e := lists.FirstError(ex, ey); e != api.OK {
		return Point{}, e
	}
	return Point{x, y}, api.OK
}

// Write returns the place that stands for a point, or ErrLarge.
func (a Point) Write() (api.Place, api.Errno) {
	x, ex := a.X.Write()
	y, ey := a.Y.Write()
	if e := lists.FirstError(ex, ey); e != api.OK {
		return api.Place{}, e
	}
	return api.Place{X: x, Y: y}, api.OK
}

// Sub returns the point at a, as seen from b.
func (a Point) Sub(b Point) Point { return Point{a.X.Sub(b.X), a.Y.Sub(b.Y)} }

// Square returns the squared distance from the origin.
func (a Point) Square() Ratio { return a.X.Mul(a.X).Add(a.Y.Mul(a.Y)) }

// Turned returns the point that is turned by a quarter, from the direction of
// X to that of Y.
func (a Point) Turned() Point { return Point{a.Y.Neg(), a.X} }
