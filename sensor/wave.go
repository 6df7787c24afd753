package sensor

import (
	"lenslet/api"
	"lenslet/lists"
	"lenslet/number"
	"lenslet/rational"
)

// decimals is the number of decimals of the cosines and sines of a transform.
const decimals = 9

// band is a span: its middle, and half of its width. Both are in units of
// 1/(2 10^9), or of that part of the least float: then they are integers.
type band struct {
	centre rational.Int
	half   rational.Int
}

// wave is a complex number whose parts lie in bands.
type wave struct {
	re band
	im band
}

// bandUnits returns the number of units of bands that make up 1.
func bandUnits() rational.Int { return rational.Power(10, decimals).Mul(rational.Whole(2)) }

// bandOf returns the band of a cosine or a sine; there is no error beside one
// of a turn of a factor.
func bandOf(s api.Span, _ api.Errno) band {
	low, high := wholeDecimals(s.Low), wholeDecimals(s.High)
	return band{low.Add(high), high.Sub(low)}
}

// wholeDecimals returns a number with at most 9 decimals times 10^9.
func wholeDecimals(a api.Rat) rational.Int {
	x, _ := rational.Read(a)
	return x.Mul(rational.Integer(rational.Power(10, decimals))).Num()
}

func (b band) plus(c band) band { return band{b.centre.Add(c.centre), b.half.Add(c.half)} }

func (b band) negated() band { return band{b.centre.Neg(), b.half} }

func (b band) times(n rational.Int) band { return band{b.centre.Mul(n), b.half.Mul(n.Abs())} }

// middle returns the nearest float to the middle of a band of values.
func (b band) middle() (float32, api.Errno) {
	value := rational.Fraction(b.centre, bandUnits())
	return value.Mul(rational.LeastFloat()).Float()
}

// isNear reports whether a sample differs from all numbers of a band of
// values by at most a tolerance.
func (b band) isNear(f float32, tolerance rational.Ratio) bool {
	distance := rational.Steps(f).Mul(bandUnits()).Sub(b.centre).Abs()
	farthest := rational.Fraction(distance.Add(b.half), bandUnits())
	return farthest.Cmp(tolerance) <= 0
}

func (w wave) plus(v wave) wave { return wave{w.re.plus(v.re), w.im.plus(v.im)} }

// times returns the product with a complex sample, in units of the least float.
func (w wave) times(z complex64) wave {
	re, im := rational.Steps(real(z)), rational.Steps(imag(z))
	return wave{
		w.re.times(re).plus(w.im.times(im).negated()),
		w.re.times(im).plus(w.im.times(re)),
	}
}

// middle returns the complex number with the nearest floats to the middles.
func (w wave) middle() (complex64, api.Errno) {
	re, er := w.re.middle()
	im, ei := w.im.middle()
	if e := lists.FirstError(er, ei); e != api.OK {
		return 0, e
	}
	return complex(re, im), api.OK
}

// factors returns the factors of a transform with some side: for each multiple
// of 1/side the cosine of this turn, and the negated sine.
func factors(side int) []wave {
	list := make([]wave, side)
	for i := range list {
		turn, _ := number.Of(i, side)
		list[i] = wave{bandOf(number.Cos(turn, decimals)), bandOf(number.Sin(turn, decimals)).negated()}
	}
	return list
}

// transformOf returns the spans of the transform of a field. With 2 and 4
// rows all factors are exact, and so are the values.
func transformOf(field [][]complex64) [][]wave {
	list := factors(len(field))
	turned := func(z complex64, steps int) wave { return list[steps].times(z) }
	return transformed(field, turned, wave.plus)
}

// transformed returns for each row k and column l the sum, over all rows a
// and columns b of a field, of what its value there becomes when it is turned
// by a k + b l steps, of which as many as there are rows are a whole turn.
func transformed[T, U any](field [][]T, turned func(value T, steps int) U, add func(a, b U) U) [][]U {
	side := len(field)
	sums := make([][]U, side)
	for at := range pixels(side, side) {
		var terms []U
		for from := range pixels(side, side) {
			steps := (from[1]*at[1] + from[0]*at[0]) % side
			terms = append(terms, turned(field[from[1]][from[0]], steps))
		}
		sums[at[1]] = append(sums[at[1]], lists.Sum(terms, add))
	}
	return sums
}
