package interval

import (
	"lenslet/api"
	"lenslet/lists"
	"lenslet/rational"
)

// Box is the set of the complex numbers whose real part is in Re, and whose
// imaginary part is in Im.
type Box struct {
	Re Interval
	Im Interval
}

// ReadBox returns the box that a box of package api stands for, or its first
// error.
func ReadBox(b api.Box) (Box, api.Errno) {
	re, er := Read(b.Re)
	im, ei := Read(b.Im)
	if e := lists.FirstError(er, ei); e != api.OK {
		return Box{}, e
	}
	return Box{re, im}, api.OK
}

// Write returns the box of package api that stands for a box, or ErrLarge.
func (a Box) Write() (api.Box, api.Errno) {
	re, er := a.Re.Write()
	im, ei := a.Im.Write()
	if e := lists.FirstError(er, ei); e != api.OK {
		return api.Box{}, e
	}
	return api.Box{Re: re, Im: im}, api.OK
}

// Plus returns the sums of the parts.
func (a Box) Plus(b Box) Box { return Box{a.Re.Plus(b.Re), a.Im.Plus(b.Im)} }

// Minus returns the differences of the parts.
func (a Box) Minus(b Box) Box { return Box{a.Re.Minus(b.Re), a.Im.Minus(b.Im)} }

// Times returns the product, part by part.
func (a Box) Times(b Box) Box {
	return Box{
		a.Re.Times(b.Re).Minus(a.Im.Times(b.Im)),
		a.Re.Times(b.Im).Plus(a.Im.Times(b.Re)),
	}
}

// By returns both parts times a number.
func (a Box) By(x rational.Ratio) Box {
	return Box{a.Re.Times(Single(x)), a.Im.Times(Single(x))}
}

// Conjugate returns the box with the negated imaginary part.
func (a Box) Conjugate() Box { return Box{a.Re, a.Im.Neg()} }

// Norm returns the sum of the squares of the parts.
func (a Box) Norm() Interval { return a.Re.Square().Plus(a.Im.Square()) }
