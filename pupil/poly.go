package pupil

import (
	"lenslet/api"
	"lenslet/lists"
	"lenslet/rational"
)

// Term is a term of a polynomial: C times X to the power of I times Y to the power of J.
type Term struct {
	C api.Rat
	I int
	J int
}

// Poly is a polynomial of X and Y.
type Poly []Term

// CheckPoly returns the first error of a polynomial, or OK.
func CheckPoly(f Poly) api.Errno {
	_, e := readPoly(f)
	return e
}

// Value returns the value of a polynomial at a place.
func Value(f Poly, at api.Place) (api.Rat, api.Errno) {
	g, ef := readPoly(f)
	place, ep := rational.ReadPoint(at)
	if e := lists.FirstError(ef, ep); e != api.OK {
		return "", e
	}
	return g.at(place).Write()
}

// AddPoly returns the sum of two polynomials.
func AddPoly(f, g Poly) (Poly, api.Errno) {
	a, b, e := readTwoPolys(f, g)
	if e != api.OK {
		return nil, e
	}
	return a.plus(b).write()
}

// MulPoly returns the product of two polynomials.
func MulPoly(f, g Poly) (Poly, api.Errno) {
	a, b, e := readTwoPolys(f, g)
	if e != api.OK {
		return nil, e
	}
	if a.degree()+b.degree() > MaxDegree {
		return nil, api.ErrRange
	}
	return a.times(b).write()
}

// Derive returns the derivative of a polynomial by X, or by Y.
func Derive(f Poly, axis string) (Poly, api.Errno) {
	g, e := readPoly(f)
	if e := lists.FirstError(e, checkAxis(axis)); e != api.OK {
		return nil, e
	}
	if axis == "x" {
		return g.derivedByX().write()
	}
	return g.derivedByY().write()
}

// Turned returns a polynomial that is turned by a quarter.
func Turned(f Poly) (Poly, api.Errno) {
	g, e := readPoly(f)
	if e != api.OK {
		return nil, e
	}
	return g.turned().write()
}

// readPoly returns the polynomial that terms stand for, or their first error.
func readPoly(f Poly) (polynomial, api.Errno) {
	parts := make(polynomial, len(f))
	for i, term := range f {
		c, e := rational.Read(term.C)
		p := part{c, term.I, term.J}
		if e := lists.FirstError(e, p.check()); e != api.OK {
			return nil, e
		}
		if i > 0 && comparePowers(parts[i-1].powers(), p.powers()) >= 0 {
			return nil, api.ErrOrder
		}
		parts[i] = p
	}
	return parts, api.OK
}

func readTwoPolys(f, g Poly) (polynomial, polynomial, api.Errno) {
	a, ea := readPoly(f)
	b, eb := readPoly(g)
	if e := lists.FirstError(ea, eb); e != api.OK {
		return nil, nil, e
	}
	return a, b, api.OK
}

func checkAxis(axis string) api.Errno {
	if axis != "x" && axis != "y" {
		return api.ErrKind
	}
	return api.OK
}
