package sensor

import (
	"lenslet/api"
	"lenslet/lists"
	"lenslet/number"
	"lenslet/rational"
)

// Correlated returns the whole shift by which a template fits best behind each lenslet.
func Correlated(g Geometry, frame, template [][]float32, most int) ([][2]int, api.Errno) {
	e := lists.FirstError(CheckFrame(g, frame), checkTemplate(g, template), lists.CheckRange(most, 0, MaxShift))
	if e != api.OK {
		return nil, e
	}
	pattern := subaperture(mappedRows(template, count))
	return lists.Mapped(g.subapertures(frame), func(s subaperture) [2]int {
		return s.bestShift(pattern, most)
	}), api.OK
}

func checkTemplate(g Geometry, template [][]float32) api.Errno {
	if len(template) != g.Side {
		return api.ErrShape
	}
	return checkRows(template, g.Side, number.CheckSamples)
}

// bestShift returns the first shift with the greatest correlation, by
// ascending rows, then columns.
func (s subaperture) bestShift(template subaperture, most int) [2]int {
	unshifted := [2]int{}
	bound := s.correlation(s, unshifted).Mul(template.correlation(template, unshifted))
	best := [2]int{-most, -most}
	greatest := s.correlation(template, best)
search:
	for row := -most; row <= most; row++ {
		for column := -most; column <= most; column++ {
			shift := [2]int{column, row}
			correlation := s.correlation(template, shift)
			if correlation.Cmp(greatest) > 0 {
				best, greatest = shift, correlation
			}
			// The square of no correlation is above the bound (Cauchy).
			if greatest.Sign() >= 0 && greatest.Mul(greatest).Cmp(bound) == 0 {
				break search
			}
		}
	}
	return best
}

// correlation returns the correlation with a shifted template.
func (s subaperture) correlation(template subaperture, shift [2]int) rational.Ratio {
	var products []rational.Ratio
	for pixel := range pixels(len(s), len(s)) {
		other := [2]int{pixel[0] - shift[0], pixel[1] - shift[1]}
		if template.contains(other) {
			products = append(products, s.at(pixel).Mul(template.at(other)))
		}
	}
	return lists.Sum(products, rational.Ratio.Add)
}
