package sensor_test

import (
	"math"
	"math/big"
	"math/rand"
	"slices"
	"testing"

	"lenslet/api"
	"lenslet/sensor"
)

// P3.1: frames.

func TestCheckGeometry(t *testing.T) {
	for _, g := range append(someGeometries(), twin(), greatest(), geometry{8, 1, 2}, geometry{1, 8, 8}) {
		same(t, "CheckGeometry", sensor.CheckGeometry(g), api.OK)
	}
	for _, g := range badGeometries() {
		same(t, "CheckGeometry", sensor.CheckGeometry(g), api.ErrRange)
	}
}

func TestCheckFrame(t *testing.T) {
	for _, g := range append(someGeometries(), greatest()) {
		same(t, "CheckFrame", sensor.CheckFrame(g, filled(g, -2.5)), api.OK)
	}
	same(t, "CheckFrame", sensor.CheckFrame(twin(), frame{{most, -most, least, -least}, {0, negativeZero(), 1, 2}}), api.OK)
	for i, row := range badFrames() {
		if e := sensor.CheckFrame(twin(), row.frame); e != row.e {
			t.Errorf("CheckFrame of bad frame %d: got %d, want %d", i, e, row.e)
		}
	}
	for _, g := range badGeometries() {
		same(t, "CheckFrame", sensor.CheckFrame(g, nil), api.ErrRange)
		same(t, "CheckFrame", sensor.CheckFrame(g, frame{noSamples()}), api.ErrRange)
	}
	same(t, "CheckFrame", sensor.CheckFrame(greatest(), filled(geometry{8, 7, 8}, 0)), api.ErrShape)
}

// camera returns a camera for a geometry without bad pixels.
func camera(g geometry, dark, flat float32) sensor.Camera {
	return sensor.Camera{Dark: filled(g, dark), Flat: filled(g, flat)}
}

// manyPixels returns the first pixels of a frame of the greatest geometry.
func manyPixels(count int) [][2]int {
	var list [][2]int
	for i := range count {
		list = append(list, [2]int{i % 64, i / 64})
	}
	return list
}

// badCamera is a camera for some geometry with an error.
type badCamera struct {
	g geometry
	c sensor.Camera
	e api.Errno
}

func badCameras() []badCamera {
	g, one, nan := twin(), filled(twin(), 1), noSamples()[0]
	bad := func(list ...[2]int) sensor.Camera { return sensor.Camera{Dark: one, Flat: one, Bad: list} }
	many := camera(greatest(), 0, 1)
	many.Bad = append(manyPixels(256), [2]int{-1, -1})
	wrong := [][2]int{{-1, 0}}
	list := []badCamera{
		{g, sensor.Camera{Dark: one[:1], Flat: with(one, 0, 0, nan)}, api.ErrShape}, {g, sensor.Camera{Dark: with(one, 0, 0, nan), Flat: one[:1]}, api.ErrForm},
		{g, sensor.Camera{}, api.ErrShape}, {g, sensor.Camera{Dark: one}, api.ErrShape},
		{g, sensor.Camera{Dark: one, Flat: with(one, 0, 0, 0), Bad: wrong}, api.ErrZero}, {g, sensor.Camera{Dark: one, Flat: with(one, 3, 1, negativeZero())}, api.ErrZero},
		{g, sensor.Camera{Dark: one, Flat: with(one, 2, 0, -least)}, api.ErrZero}, {g, sensor.Camera{Dark: one, Flat: filled(g, -1)}, api.ErrZero},
		{g, sensor.Camera{Dark: one, Flat: with(with(one, 0, 0, 0), 3, 1, nan)}, api.ErrForm}, {g, sensor.Camera{Dark: one, Flat: without(with(one, 0, 0, 0), 1, 1)}, api.ErrShape},
		{greatest(), many, api.ErrMany}, {greatest(), sensor.Camera{Dark: many.Dark, Flat: with(many.Flat, 63, 63, 0), Bad: many.Bad}, api.ErrZero},
		{g, bad([2]int{-1, 0}), api.ErrRange}, {g, bad([2]int{4, 0}), api.ErrRange}, {g, bad([2]int{0, -1}), api.ErrRange}, {g, bad([2]int{0, 2}), api.ErrRange},
		{g, bad([2]int{math.MinInt, 0}), api.ErrRange}, {g, bad([2]int{0, math.MaxInt}), api.ErrRange},
		{g, bad([2]int{1, 0}, [2]int{1, 0}), api.ErrOrder}, {g, bad([2]int{1, 0}, [2]int{0, 0}), api.ErrOrder}, {g, bad([2]int{0, 1}, [2]int{3, 0}), api.ErrOrder},
		{g, bad([2]int{1, 1}, [2]int{1, -1}), api.ErrRange}, {g, bad([2]int{1, 0}, [2]int{1, 0}, [2]int{9, 9}), api.ErrOrder}, {g, bad([2]int{1, 0}, [2]int{9, 9}, [2]int{1, 0}), api.ErrRange},
	}
	for _, row := range badFrames() {
		list = append(list, badCamera{g, sensor.Camera{Dark: row.frame, Flat: one[:1], Bad: wrong}, row.e})
		list = append(list, badCamera{g, sensor.Camera{Dark: one, Flat: row.frame, Bad: wrong}, row.e})
	}
	for _, g := range badGeometries() {
		list = append(list, badCamera{g, sensor.Camera{Bad: wrong}, api.ErrRange})
	}
	return list
}

func TestCheckCamera(t *testing.T) {
	c := camera(twin(), -1, least)
	c.Bad = [][2]int{{0, 0}, {3, 0}, {0, 1}, {2, 1}}
	same(t, "CheckCamera", sensor.CheckCamera(twin(), c), api.OK)
	c = camera(greatest(), most, most)
	c.Bad = manyPixels(256)
	same(t, "CheckCamera with as many bad pixels as possible", sensor.CheckCamera(greatest(), c), api.OK)
	for i, row := range badCameras() {
		if e := sensor.CheckCamera(row.g, row.c); e != row.e {
			t.Errorf("CheckCamera of bad camera %d: got %d, want %d", i, e, row.e)
		}
	}
}

func TestCalibrated(t *testing.T) {
	g, c := twin(), camera(twin(), 1, 2)
	list := frame{{3, 1, 5, 1}, {1, 1, 9, 1}}
	sameFrame(t, "Calibrated", sure[frame](t)(sensor.Calibrated(g, c, list)), frame{{1, 0, 2, 0}, {0, 0, 4, 0}})
	for _, row := range []struct {
		bad  [][2]int
		want frame
	}{
		{[][2]int{{0, 0}}, frame{{0, 0, 2, 0}, {0, 0, 4, 0}}},
		{[][2]int{{2, 1}}, frame{{1, 0, 2, 0}, {0, 0, 1, 0}}},
		{[][2]int{{0, 0}, {2, 1}}, frame{{0, 0, 2, 0}, {0, 0, 1, 0}}},
		{[][2]int{{1, 0}}, frame{{1, 0.5, 2, 0}, {0, 0, 4, 0}}},
		{[][2]int{{2, 0}, {2, 1}}, frame{{1, 0, 0, 0}, {0, 0, 0, 0}}},
		{[][2]int{{3, 0}, {2, 1}}, frame{{1, 0, 2, 1}, {0, 0, 1, 0}}},
		{[][2]int{{3, 0}, {2, 1}, {3, 1}}, frame{{1, 0, 2, 2}, {0, 0, 2, 0}}},
		{[][2]int{{2, 0}, {3, 0}, {2, 1}, {3, 1}}, frame{{1, 0, 0, 0}, {0, 0, 0, 0}}},
	} {
		c.Bad = row.bad
		sameFrame(t, "Calibrated with bad pixels", sure[frame](t)(sensor.Calibrated(g, c, list)), row.want)
	}
}

func TestCalibratedBounds(t *testing.T) {
	g := twin()
	plain := camera(g, 0, 1)
	// A count of a bad pixel does not matter, even if it is too large.
	huge := with(filled(g, 1), 0, 0, most)
	thin := sensor.Camera{Dark: filled(g, 0), Flat: with(filled(g, 1), 0, 0, 0.5)}
	fails[frame](t, "Calibrated", api.ErrLarge)(sensor.Calibrated(g, thin, huge))
	thin.Bad = [][2]int{{0, 0}}
	sameFrame(t, "Calibrated", sure[frame](t)(sensor.Calibrated(g, thin, huge)), filled(g, 1))
	// The mean of counts that are too large is.
	wide := sensor.Camera{Dark: filled(g, -most), Flat: filled(g, 1), Bad: [][2]int{{0, 0}}}
	fails[frame](t, "Calibrated", api.ErrLarge)(sensor.Calibrated(g, wide, filled(g, most)))
	fails[frame](t, "Calibrated", api.ErrLarge)(sensor.Calibrated(g, camera(g, most, 1), filled(g, -most)))
	sameFrame(t, "Calibrated", sure[frame](t)(sensor.Calibrated(g, plain, filled(g, -most))), filled(g, -most))
	sameFrame(t, "Calibrated", sure[frame](t)(sensor.Calibrated(g, camera(g, -most, 2), filled(g, most))), filled(g, most))
	// Results that are too small are 0, and not -0.
	sameFrame(t, "Calibrated", sure[frame](t)(sensor.Calibrated(g, camera(g, 0, 2), filled(g, -least))), filled(g, 0))
	sameFrame(t, "Calibrated", sure[frame](t)(sensor.Calibrated(g, plain, filled(g, negativeZero()))), filled(g, 0))
	sameFrame(t, "Calibrated", sure[frame](t)(sensor.Calibrated(g, camera(g, 0, least), filled(g, least))), filled(g, 1))
	// The mean is that of the exact counts, not that of floats.
	g = single(3)
	list := frame{{0, 1, 0}, {1 << 24, 0, 1 << 24}, {0, 1, 0}}
	c := sensor.Camera{Dark: filled(g, -1), Flat: filled(g, 1), Bad: [][2]int{{1, 1}}}
	got := sure[frame](t)(sensor.Calibrated(g, c, list))
	same(t, "Calibrated mean of exact counts", got[1][1], float32(1<<23+1.5))
}

func TestCalibratedErrors(t *testing.T) {
	for i, row := range badCameras() {
		got, e := sensor.Calibrated(row.g, row.c, nil)
		if got != nil || e != row.e {
			t.Errorf("Calibrated with bad camera %d: got %v, error %d, want %d", i, got, e, row.e)
		}
	}
	for _, row := range badFrames() {
		fails[frame](t, "Calibrated", row.e)(sensor.Calibrated(twin(), camera(twin(), 0, 1), row.frame))
	}
}

// randomCamera returns a camera, about a third of whose pixels are bad.
func randomCamera(r *rand.Rand, g geometry) sensor.Camera {
	flat := func(r *rand.Rand) float32 { return float32(r.Intn(255)+1) / 128 }
	c := sensor.Camera{Dark: randomFrame(r, g, randomCount), Flat: randomFrame(r, g, flat)}
	for row := range g.Rows * g.Side {
		for column := range g.Columns * g.Side {
			if r.Intn(3) == 0 {
				c.Bad = append(c.Bad, [2]int{column, row})
			}
		}
	}
	return c
}

func TestCalibratedFromItsDefinition(t *testing.T) {
	r := rand.New(rand.NewSource(1))
	for range 20 {
		for _, g := range someGeometries() {
			c, list := randomCamera(r, g), randomFrame(r, g, randomCount)
			trueCount := func(column, row int) *big.Rat {
				difference := sub(exact(list[row][column]), exact(c.Dark[row][column]))
				return div(difference, exact(c.Flat[row][column]))
			}
			want := filled(g, 0)
			for row := range want {
				for column := range want[row] {
					if !slices.Contains(c.Bad, [2]int{column, row}) {
						want[row][column] = nearest(trueCount(column, row))
						continue
					}
					sum, count := new(big.Rat), 0
					for y := range want {
						for x := range want[y] {
							near := max(x-column, column-x)+max(y-row, row-y) == 1
							together := x/g.Side == column/g.Side && y/g.Side == row/g.Side
							if near && together && !slices.Contains(c.Bad, [2]int{x, y}) {
								sum, count = add(sum, trueCount(x, y)), count+1
							}
						}
					}
					if count > 0 {
						want[row][column] = nearest(mul(sum, ratio(1, count)))
					}
				}
			}
			sameFrame(t, "Calibrated", sure[frame](t)(sensor.Calibrated(g, c, list)), want)
		}
	}
}

func TestAveraged(t *testing.T) {
	g := twin()
	for _, row := range []struct {
		samples []float32
		want    float32
	}{
		{[]float32{3}, 3}, {[]float32{1, 2}, 1.5}, {[]float32{1, 1, 2}, 4.0 / 3}, {[]float32{1, -1}, 0}, {[]float32{negativeZero(), negativeZero()}, 0},
		{[]float32{most, most, most}, most}, {[]float32{-most, -most}, -most}, {[]float32{least, 0}, 0}, {[]float32{-least, 0}, 0}, {[]float32{least, 2 * least}, 2 * least},
		{[]float32{1 << 24, 1, 1}, 5592406}, {[]float32{1 << 24, 1<<24 + 2}, 1 << 24}, {[]float32{most, least, -most}, 0},
	} {
		var frames []frame
		for _, f := range row.samples {
			frames = append(frames, filled(g, f))
		}
		sameFrame(t, "Averaged", sure[frame](t)(sensor.Averaged(g, frames)), filled(g, row.want))
	}
	many := make([]frame, 256)
	for i := range many {
		many[i] = filled(g, float32(i))
	}
	sameFrame(t, "Averaged with as many frames as possible", sure[frame](t)(sensor.Averaged(g, many)), filled(g, 127.5))
	sameFrame(t, "Averaged", sure[frame](t)(sensor.Averaged(g, []frame{{{1, 2, 3, 4}, {5, 6, 7, 8}}, {{3, 2, 1, 0}, {0, 0, 0, -9}}})), frame{{2, 2, 2, 2}, {2.5, 3, 3.5, -0.5}})
}

func TestAveragedErrors(t *testing.T) {
	g, good := twin(), filled(twin(), 1)
	fails[frame](t, "Averaged", api.ErrEmpty)(sensor.Averaged(g, nil))
	fails[frame](t, "Averaged", api.ErrMany)(sensor.Averaged(g, make([]frame, 257)))
	for _, row := range badFrames() {
		fails[frame](t, "Averaged", row.e)(sensor.Averaged(g, []frame{row.frame}))
		fails[frame](t, "Averaged", row.e)(sensor.Averaged(g, []frame{good, row.frame, nil}))
	}
	fails[frame](t, "Averaged", api.ErrForm)(sensor.Averaged(g, []frame{good, with(good, 0, 0, noSamples()[0]), nil}))
	for _, bad := range badGeometries() {
		fails[frame](t, "Averaged", api.ErrRange)(sensor.Averaged(bad, nil))
		fails[frame](t, "Averaged", api.ErrRange)(sensor.Averaged(bad, make([]frame, 257)))
	}
}

func TestAveragedFromItsDefinition(t *testing.T) {
	r := rand.New(rand.NewSource(2))
	for range 60 {
		g := someGeometries()[r.Intn(6)]
		frames := make([]frame, r.Intn(7)+1)
		for i := range frames {
			frames[i] = randomFrame(r, g, randomSample)
		}
		want := filled(g, 0)
		for row := range want {
			for column := range want[row] {
				sum := new(big.Rat)
				for _, list := range frames {
					sum = add(sum, exact(list[row][column]))
				}
				want[row][column] = nearest(mul(sum, ratio(1, len(frames))))
			}
		}
		sameFrame(t, "Averaged", sure[frame](t)(sensor.Averaged(g, frames)), want)
	}
}
