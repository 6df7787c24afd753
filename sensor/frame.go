package sensor

import (
	"slices"

	"lenslet/api"
	"lenslet/lists"
	"lenslet/rational"
)

// Calibrated returns a frame without dark, flat and bad pixels.
func Calibrated(g Geometry, c Camera, frame [][]float32) ([][]float32, api.Errno) {
	if e := lists.FirstError(CheckCamera(g, c), CheckFrame(g, frame)); e != api.OK {
		return nil, e
	}
	bad := map[[2]int]bool{}
	for _, at := range c.Bad {
		bad[at] = true
	}
	trueCount := func(at [2]int) rational.Ratio {
		return countAt(frame, at).Sub(countAt(c.Dark, at)).Div(countAt(c.Flat, at))
	}
	return refilled(frame, func(at [2]int) rational.Ratio {
		if !bad[at] {
			return trueCount(at)
		}
		good := slices.DeleteFunc(g.neighbours(at), func(other [2]int) bool { return bad[other] })
		return rational.Mean(lists.Mapped(good, trueCount))
	})
}

// Averaged returns the mean of frames.
func Averaged(g Geometry, frames [][][]float32) ([][]float32, api.Errno) {
	if e := lists.FirstError(CheckGeometry(g), checkFrames(g, frames)); e != api.OK {
		return nil, e
	}
	unit := rational.LeastFloat()
	return refilled(frames[0], func(at [2]int) rational.Ratio {
		counts := lists.Mapped(frames, func(frame [][]float32) rational.Ratio { return countAt(frame, at) })
		return rational.Mean(counts).Mul(unit)
	})
}

func checkFrames(g Geometry, frames [][][]float32) api.Errno {
	if e := lists.CheckCount(len(frames), api.MaxFrames); e != api.OK {
		return e
	}
	return lists.FirstBad(frames, func(frame [][]float32) api.Errno { return CheckFrame(g, frame) })
}

// count returns the exact value of a sample in units of the least float.
// There it is an integer, and sums of counts need no common denominator.
func count(f float32) rational.Ratio { return rational.Integer(rational.Steps(f)) }

// countAt returns the count of a pixel of a frame.
func countAt(frame [][]float32, at [2]int) rational.Ratio { return count(frame[at[1]][at[0]]) }

// neighbours returns the pixels beside, above and below a pixel of a frame
// that lie in the same subaperture.
func (g Geometry) neighbours(at [2]int) [][2]int {
	var list [][2]int
	for _, step := range [][2]int{{-1, 0}, {1, 0}, {0, -1}, {0, 1}} {
		if g.sideContains(at[0]%g.Side+step[0]) && g.sideContains(at[1]%g.Side+step[1]) {
			list = append(list, [2]int{at[0] + step[0], at[1] + step[1]})
		}
	}
	return list
}

// sideContains reports whether a subaperture has a column, or a row, with
// this index.
func (g Geometry) sideContains(index int) bool { return index >= 0 && index < g.Side }

// refilled returns a copy of a frame that has in each pixel the nearest float
// to a number, or ErrLarge.
func refilled(frame [][]float32, numberAt func(at [2]int) rational.Ratio) ([][]float32, api.Errno) {
	filled := lists.Mapped(frame, slices.Clone)
	for at := range pixels(len(frame[0]), len(frame)) {
		f, e := numberAt(at).Float()
		if e != api.OK {
			return nil, e
		}
		filled[at[1]][at[0]] = f
	}
	return filled, api.OK
}
