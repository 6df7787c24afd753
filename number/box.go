package number

import (
	"lenslet/api"
	"lenslet/lists"
)

// region is a box whose ends may have any size.
type region struct {
	re interval
	im interval
}

// CheckBox returns the first error of a box, or OK.
func CheckBox(b api.Box) api.Errno {
	_, e := readBox(b)
	return e
}

// AddBox returns the sum of two boxes.
func AddBox(a, b api.Box) (api.Box, api.Errno) { return onBoxes(a, b, region.plus) }

// MulBox returns the product of two boxes.
func MulBox(a, b api.Box) (api.Box, api.Errno) { return onBoxes(a, b, region.times) }

// Conjugate returns the conjugate of a box.
func Conjugate(a api.Box) (api.Box, api.Errno) {
	x, e := readBox(a)
	if e != api.OK {
		return api.Box{}, e
	}
	return region{x.re, x.im.negated()}.write()
}

// Norm returns a span that contains the squared magnitudes of a box.
func Norm(a api.Box) (api.Span, api.Errno) {
	x, e := readBox(a)
	if e != api.OK {
		return api.Span{}, e
	}
	return x.re.square().plus(x.im.square()).write()
}

// readBox returns the region that a box stands for, or its first error.
func readBox(b api.Box) (region, api.Errno) {
	re, im, e := readTwoSpans(b.Re, b.Im)
	if e != api.OK {
		return region{}, e
	}
	return region{re, im}, api.OK
}

// onBoxes returns the result of an operation on two boxes.
func onBoxes(a, b api.Box, of func(x, y region) region) (api.Box, api.Errno) {
	x, ex := readBox(a)
	y, ey := readBox(b)
	if e := lists.FirstError(ex, ey); e != api.OK {
		return api.Box{}, e
	}
	return of(x, y).write()
}

// write returns the box that stands for a region, or ErrLarge.
func (a region) write() (api.Box, api.Errno) {
	re, er := a.re.write()
	im, ei := a.im.write()
	if e := lists.FirstError(er, ei); e != api.OK {
		return api.Box{}, e
	}
	return api.Box{Re: re, Im: im}, api.OK
}

func (a region) plus(b region) region {
	return region{a.re.plus(b.re), a.im.plus(b.im)}
}

func (a region) times(b region) region {
	return region{
		a.re.times(b.re).minus(a.im.times(b.im)),
		a.re.times(b.im).plus(a.im.times(b.re)),
	}
}
