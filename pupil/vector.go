package pupil

import (
	"slices"

	"lenslet/api"
	"lenslet/lists"
	"lenslet/rational"
)

// maxElements is the greatest number of elements of a vector.
const maxElements = api.MaxSide * api.MaxSide

// vector is a vector whose numbers are read.
type vector []rational.Ratio

// readVector returns the vector that numbers stand for, or its first error.
func readVector(list []api.Rat) (vector, api.Errno) {
	if len(list) > maxElements {
		return nil, api.ErrMany
	}
	return rational.ReadAll(list)
}

// readBasis returns the vectors of a basis, or its first error. Whether they
// are orthogonal is not examined.
func readBasis(basis [][]api.Rat) ([]vector, api.Errno) {
	if e := lists.CheckCount(len(basis), api.MaxModes); e != api.OK {
		return nil, e
	}
	return lists.Checked(basis, func(list []api.Rat) (vector, api.Errno) {
		v, e := readVector(list)
		if e == api.OK && len(list) != len(basis[0]) {
			return nil, api.ErrShape
		}
		return v, e
	})
}

// checkOrthogonal returns the error of the first vector that is 0, or not
// orthogonal to one before it.
func checkOrthogonal(vectors []vector) api.Errno {
	for k, v := range vectors {
		if v.isZero() {
			return api.ErrZero
		}
		for _, w := range vectors[:k] {
			if v.dot(w).Sign() != 0 {
				return api.ErrRule
			}
		}
	}
	return api.OK
}

// write returns the numbers of a vector, or ErrLarge.
func (v vector) write() ([]api.Rat, api.Errno) { return rational.WriteAll(v) }

// isZero reports whether all elements are 0.
func (v vector) isZero() bool {
	return !slices.ContainsFunc(v, func(x rational.Ratio) bool { return x.Sign() != 0 })
}

// dot returns the inner product of two vectors of the same length.
func (v vector) dot(w vector) rational.Ratio { return rational.Dot(v, w) }

// addMultiple adds c times a vector of the same length to v.
func (v vector) addMultiple(w vector, c rational.Ratio) {
	for i := range v {
		v[i] = v[i].Add(w[i].Mul(c))
	}
}

// expanded returns the coefficients of v in a basis of orthogonal vectors,
// and the residual.
func (v vector) expanded(basis []vector) (vector, vector) {
	coefficients := make(vector, len(basis))
	residual := slices.Clone(v)
	for k, b := range basis {
		coefficients[k] = v.dot(b).Div(b.dot(b))
		residual.addMultiple(b, coefficients[k].Neg())
	}
	return coefficients, residual
}
