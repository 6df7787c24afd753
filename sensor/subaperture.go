package sensor

import (
	"lenslet/lists"
	"lenslet/rational"
)

// subaperture has the counts behind a lenslet, row by row, in units of the
// least float.
type subaperture [][]rational.Ratio

// behind returns the subaperture of a lenslet in a frame.
func (g Geometry) behind(frame [][]float32, lenslet int) subaperture {
	left, top := lenslet%g.Columns*g.Side, lenslet/g.Columns*g.Side
	return lists.Mapped(frame[top:top+g.Side], func(row []float32) []rational.Ratio {
		return lists.Mapped(row[left:left+g.Side], count)
	})
}

// subapertures returns the subapertures of all lenslets in a frame.
func (g Geometry) subapertures(frame [][]float32) []subaperture {
	list := make([]subaperture, g.lenslets())
	for lenslet := range list {
		list[lenslet] = g.behind(frame, lenslet)
	}
	return list
}

func (s subaperture) at(pixel [2]int) rational.Ratio { return s[pixel[1]][pixel[0]] }

// contains reports whether there is a pixel with this column and row.
func (s subaperture) contains(pixel [2]int) bool {
	return min(pixel[0], pixel[1]) >= 0 && max(pixel[0], pixel[1]) < len(s)
}

// above returns the counts less a level, and 0 instead of negative ones.
func (s subaperture) above(level rational.Ratio) subaperture {
	return mappedRows(s, func(count rational.Ratio) rational.Ratio {
		return positivePart(count.Sub(level))
	})
}

// plus returns the counts plus a number.
func (s subaperture) plus(more rational.Ratio) subaperture {
	return mappedRows(s, more.Add)
}

// flux returns the sum of all counts.
func (s subaperture) flux() rational.Ratio {
	return lists.Sum(s.lines(0), rational.Ratio.Add)
}

// lines returns the sums of the counts in each column (for the axis 0), or in
// each row (for the axis 1).
func (s subaperture) lines(axis int) []rational.Ratio {
	sums := make([]rational.Ratio, len(s))
	for pixel := range pixels(len(s), len(s)) {
		line := pixel[axis]
		sums[line] = sums[line].Add(s.at(pixel))
	}
	return sums
}

// centre returns the mean coordinate of lines of pixels with some sums of
// counts, which are not 0 together.
func centre(lines []rational.Ratio) rational.Ratio {
	moments := make([]rational.Ratio, len(lines))
	for i, sum := range lines {
		moments[i] = coordinate(i, len(lines)).Mul(sum)
	}
	return lists.Sum(moments, rational.Ratio.Add).Div(lists.Sum(lines, rational.Ratio.Add))
}

// coordinate returns the coordinate of a column, or of a row, in a
// subaperture.
func coordinate(index, side int) rational.Ratio {
	return rational.Fraction(rational.Whole(2*index+1-side), rational.Whole(2))
}

// positivePart returns a number, and 0 instead of a negative one.
func positivePart(x rational.Ratio) rational.Ratio {
	if x.Sign() < 0 {
		return rational.Ratio{}
	}
	return x
}

// inLeastFloats returns a number in units of the least float.
func inLeastFloats(x rational.Ratio) rational.Ratio { return x.Div(rational.LeastFloat()) }
