package pupil

import (
	"lenslet/api"
	"lenslet/lists"
	"lenslet/rational"
)

// Sampled returns the values of a polynomial at the cells in the pupil.
func Sampled(p Pupil, f Poly) ([]api.Rat, api.Errno) {
	g, ep := readPupil(p)
	a, ef := readPoly(f)
	if e := lists.FirstError(ep, ef); e != api.OK {
		return nil, e
	}
	centres := g.allCentres()
	if len(centres) == 0 {
		return nil, api.ErrNone
	}
	return a.valuesAt(centres).write()
}

// Basis returns orthogonal vectors on the pupil for modes.
func Basis(p Pupil, modes []Poly) ([][]api.Rat, api.Errno) {
	g, ep := readPupil(p)
	polynomials, em := readModes(modes)
	if e := lists.FirstError(ep, em); e != api.OK {
		return nil, e
	}
	centres := g.allCentres()
	if len(centres) == 0 {
		return nil, api.ErrNone
	}
	var basis []vector
	for _, f := range polynomials {
		_, rest := f.valuesAt(centres).expanded(basis)
		if rest.isZero() {
			return nil, api.ErrSingular
		}
		basis = append(basis, rest)
	}
	return lists.Checked(basis, vector.write)
}

// Expand returns the coefficients of a phase in a basis, and the residual.
func Expand(basis [][]api.Rat, phase []api.Rat) ([]api.Rat, []api.Rat, api.Errno) {
	vectors, eb := readBasis(basis)
	v, ep := readVector(phase)
	if e := lists.FirstError(eb, ep); e != api.OK {
		return nil, nil, e
	}
	if len(phase) != len(basis[0]) {
		return nil, nil, api.ErrShape
	}
	if e := checkOrthogonal(vectors); e != api.OK {
		return nil, nil, e
	}
	coefficients, residual := v.expanded(vectors)
	c, ec := coefficients.write()
	r, er := residual.write()
	if e := lists.FirstError(ec, er); e != api.OK {
		return nil, nil, e
	}
	return c, r, api.OK
}

// Compose returns the phase with some coefficients in a basis.
func Compose(basis [][]api.Rat, coefficients []api.Rat) ([]api.Rat, api.Errno) {
	vectors, eb := readBasis(basis)
	c, ec := readVector(coefficients)
	if e := lists.FirstError(eb, ec); e != api.OK {
		return nil, e
	}
	if len(coefficients) != len(basis) {
		return nil, api.ErrShape
	}
	if e := checkOrthogonal(vectors); e != api.OK {
		return nil, e
	}
	phase := make(vector, len(basis[0]))
	for k, v := range vectors {
		phase.addMultiple(v, c[k])
	}
	return phase.write()
}

// readModes returns the polynomials of modes, or their first error.
func readModes(modes []Poly) ([]polynomial, api.Errno) {
	if e := lists.CheckCount(len(modes), api.MaxModes); e != api.OK {
		return nil, e
	}
	return lists.Checked(modes, readPoly)
}

// valuesAt returns the values at some places.
func (f polynomial) valuesAt(centres []rational.Point) vector {
	return lists.Mapped(centres, f.at)
}
