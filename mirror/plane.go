package mirror

import (
	"lenslet/api"
	"lenslet/lists"
	"lenslet/rational"
)

// Plane is a plane: its value at 0, 0, and its slopes.
type Plane struct {
	Piston api.Rat
	Tip    api.Rat
	Tilt   api.Rat
}

// plane is a plane whose numbers are read.
type plane struct {
	piston rational.Ratio
	tip    rational.Ratio
	tilt   rational.Ratio
}

// Offload returns a command without its plane, and the plane.
func Offload(m Mirror, c []api.Rat) ([]api.Rat, Plane, api.Errno) {
	d, em := readMirror(m)
	x, ec := d.readNumbers(c)
	if e := lists.FirstError(em, ec); e != api.OK {
		return nil, Plane{}, e
	}
	fit, e := d.fitted(x)
	if e != api.OK {
		return nil, Plane{}, e
	}
	p, e := fit.write()
	if e != api.OK {
		return nil, Plane{}, e
	}
	rest := make(numbers, len(x))
	for i := range x {
		rest[i] = x[i].Sub(fit.at(d.actuators[i].at))
	}
	list, e := rest.write()
	if e != api.OK {
		return nil, Plane{}, e
	}
	return list, p, api.OK
}

// PlaneAt returns the value of a plane at a place.
func PlaneAt(p Plane, at api.Place) (api.Rat, api.Errno) {
	f, ep := readPlane(p)
	place, ea := rational.ReadPoint(at)
	if e := lists.FirstError(ep, ea); e != api.OK {
		return "", e
	}
	return f.at(place).Write()
}

// fitted returns the plane of numbers, or ErrSingular. Around the mean place
// its tip and its tilt do not depend on its piston; with integers their sums
// need no common denominators.
func (d device) fitted(list numbers) (plane, api.Errno) {
	var x, y, z numbers
	for i := range d.free() {
		at := d.actuators[i].at
		x, y, z = append(x, at.X), append(y, at.Y), append(z, list[i])
	}
	u, perX := x.whole()
	v, perY := y.whole()
	w, perZ := z.whole()
	u, v, w = u.centred(), v.centred(), w.centred()
	uu, uv, vv := u.dot(u), u.dot(v), v.dot(v)
	uw, vw := u.dot(w), v.dot(w)
	determinant := uu.Mul(vv).Sub(uv.Mul(uv))
	if determinant.Sign() == 0 {
		return plane{}, api.ErrSingular
	}
	tip := uw.Mul(vv).Sub(vw.Mul(uv)).Mul(perX).Div(determinant.Mul(perZ))
	tilt := vw.Mul(uu).Sub(uw.Mul(uv)).Mul(perY).Div(determinant.Mul(perZ))
	centre := rational.Point{X: rational.Mean(x), Y: rational.Mean(y)}
	slopes := plane{rational.Ratio{}, tip, tilt}
	return plane{rational.Mean(z).Sub(slopes.at(centre)), tip, tilt}, api.OK
}

// readPlane returns the plane whose numbers are read, or the first error.
func readPlane(p Plane) (plane, api.Errno) {
	list, e := rational.ReadAll([]api.Rat{p.Piston, p.Tip, p.Tilt})
	if e != api.OK {
		return plane{}, e
	}
	return plane{list[0], list[1], list[2]}, api.OK
}

func (f plane) write() (Plane, api.Errno) {
	list, e := rational.WriteAll([]rational.Ratio{f.piston, f.tip, f.tilt})
	if e != api.OK {
		return Plane{}, e
	}
	return Plane{list[0], list[1], list[2]}, api.OK
}

// at returns the value at a place.
func (f plane) at(place rational.Point) rational.Ratio {
	return f.piston.Add(f.tip.Mul(place.X)).Add(f.tilt.Mul(place.Y))
}

// whole returns the least multiple of numbers that has integers alone, and
// its factor.
func (c numbers) whole() (numbers, rational.Ratio) {
	factor := rational.Integer(rational.Denominator(c))
	return c.times(factor), factor
}

// centred returns numbers less their mean.
func (c numbers) centred() numbers {
	mean := rational.Mean(c)
	return lists.Mapped(c, func(x rational.Ratio) rational.Ratio { return x.Sub(mean) })
}

// dot returns the sum of the products of two lists of the same length.
func (c numbers) dot(other numbers) rational.Ratio { return rational.Dot(c, other) }
