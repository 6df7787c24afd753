package number

import (
	"lenslet/api"
	"lenslet/interval"
	"lenslet/lists"
)

// CheckBox returns the first error of a box, or OK.
func CheckBox(b api.Box) api.Errno {
	_, e := interval.ReadBox(b)
	return e
}

// AddBox returns the sum of two boxes.
func AddBox(a, b api.Box) (api.Box, api.Errno) { return onBoxes(a, b, interval.Box.Plus) }

// MulBox returns the product of two boxes.
func MulBox(a, b api.Box) (api.Box, api.Errno) { return onBoxes(a, b, interval.Box.Times) }

// Conjugate returns the conjugate of a box.
func Conjugate(a api.Box) (api.Box, api.Errno) {
	x, e := interval.ReadBox(a)
	if e != api.OK {
		return api.Box{}, e
	}
	return x.Conjugate().Write()
}

// Norm returns a span that contains the squared magnitudes of a box.
func Norm(a api.Box) (api.Span, api.Errno) {
	x, e := interval.ReadBox(a)
	if e != api.OK {
		return api.Span{}, e
	}
	return x.Norm().Write()
}

// onBoxes returns the result of an operation on two boxes.
func onBoxes(a, b api.Box, of func(x, y interval.Box) interval.Box) (api.Box, api.Errno) {
	x, ex := interval.ReadBox(a)
	y, ey := interval.ReadBox(b)
	if e := lists.FirstError(ex, ey); e != api.OK {
		return api.Box{}, e
	}
	return of(x, y).Write()
}
