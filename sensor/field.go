package sensor

import (
	"slices"

	"lenslet/api"
	"lenslet/lists"
	"lenslet/number"
	"lenslet/rational"
)

// endMagnitude is the exponent of the first power of 2 that is too large for
// the sum of the parts of a field; toleranceExponent that of the power by which
// this sum is divided in its tolerance.
const (
	endMagnitude      = 120
	toleranceExponent = 20
)

// Field returns the field of phases in quarter turns.
func Field(phases [][]int) ([][]complex64, api.Errno) {
	if e := checkPhases(phases, MaxField); e != api.OK {
		return nil, e
	}
	return mappedRows(phases, func(phase int) complex64 {
		u := gaussian{1, 0}.turned(phase)
		return complex(float32(u.re), float32(u.im))
	}), api.OK
}

// Transform returns the finite transform of a field.
func Transform(field [][]complex64) ([][]complex64, api.Errno) {
	if e := checkField(field); e != api.OK {
		return nil, e
	}
	if len(field) == MaxField {
		if e := checkMagnitude(field); e != api.OK {
			return nil, e
		}
	}
	return checkedRows(transformOf(field), wave.middle)
}

// CheckTransform returns OK for the transform of a field.
func CheckTransform(field, transform [][]complex64) api.Errno {
	if e := lists.FirstError(checkField(field), checkSquare(transform, len(field))); e != api.OK {
		return e
	}
	if len(field) == MaxField {
		return checkAccepted(field, transform)
	}
	exact, e := Transform(field)
	if e == api.OK && !slices.EqualFunc(exact, transform, slices.Equal) {
		return api.ErrProof
	}
	return e
}

// checkSide returns the error of a number of rows of a field, or of phases.
func checkSide(side, most int) api.Errno {
	if side > most || !slices.Contains([]int{2, 4, 8}, side) {
		return api.ErrRange
	}
	return api.OK
}

// checkPhases returns the first error of phases with at most some rows.
func checkPhases(phases [][]int, most int) api.Errno {
	if e := checkSide(len(phases), most); e != api.OK {
		return e
	}
	return checkRows(phases, len(phases), func([]int) api.Errno { return api.OK })
}

// checkField returns the first error of a field.
func checkField(field [][]complex64) api.Errno {
	return lists.FirstError(checkSide(len(field), MaxField), checkSquare(field, len(field)))
}

// checkSquare returns the first error of a square of complex numbers with
// some side.
func checkSquare(table [][]complex64, side int) api.Errno {
	if len(table) != side {
		return api.ErrShape
	}
	return checkRows(table, side, func(row []complex64) api.Errno {
		return lists.FirstBad(row, func(z complex64) api.Errno {
			return number.CheckSamples([]float32{real(z), imag(z)})
		})
	})
}

// checkMagnitude returns the error of a field whose parts are too large
// together for a transform that is not exact.
func checkMagnitude(field [][]complex64) api.Errno {
	limit := inLeastFloats(rational.Integer(rational.Whole(1).Left(endMagnitude)))
	if rational.Integer(magnitude(field)).Cmp(limit) >= 0 {
		return api.ErrLarge
	}
	return api.OK
}

// magnitude returns the sum of the absolute values of all parts of a field,
// in units of the least float.
func magnitude(field [][]complex64) rational.Int {
	var parts []rational.Int
	for _, row := range field {
		for _, z := range row {
			parts = append(parts, rational.Steps(real(z)).Abs(), rational.Steps(imag(z)).Abs())
		}
	}
	return lists.Sum(parts, rational.Int.Add)
}

// checkAccepted returns OK if all parts of a transform that is not exact
// differ from all numbers of their spans by at most the tolerance.
func checkAccepted(field, transform [][]complex64) api.Errno {
	if e := checkMagnitude(field); e != api.OK {
		return e
	}
	tolerance := toleranceOf(field)
	spans := transformOf(field)
	for at := range pixels(len(field), len(field)) {
		z, w := transform[at[1]][at[0]], spans[at[1]][at[0]]
		if !w.re.isNear(real(z), tolerance) || !w.im.isNear(imag(z), tolerance) {
			return api.ErrProof
		}
	}
	return api.OK
}

// toleranceOf returns the tolerance of a field, in units of the least float.
func toleranceOf(field [][]complex64) rational.Ratio {
	one := rational.Whole(1)
	return rational.Fraction(magnitude(field), one.Left(toleranceExponent)).Add(rational.Integer(one))
}
