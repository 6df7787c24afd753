package sensor_test

import (
	"math"
	"math/big"
	"math/rand"
	"testing"

	"lenslet/api"
	"lenslet/sensor"
)

// P3.2: centroids.

func TestFlux(t *testing.T) {
	type fluxes = []api.Rat
	list := frame{{1, 3, 0, 0}, {0, 0, 2, 2}}
	same(t, "Flux", sure[fluxes](t)(sensor.Flux(twin(), list)), fluxes{"4", "4"})
	same(t, "Flux", sure[fluxes](t)(sensor.Flux(geometry{1, 2, 2}, frame{{0.5, -1}, {0, 0.25}, {negativeZero(), 0}, {0, 0}})), fluxes{"-1/4", "0"})
	same(t, "Flux of large and small counts", sure[fluxes](t)(sensor.Flux(twin(), frame{{most, most, least, 0}, {most, most, 0, -least}})), fluxes{"1361129386554115439246816733938067701760", "0"})
	same(t, "Flux", sure[fluxes](t)(sensor.Flux(single(2), frame{{most, least}, {-most, 0}})), fluxes{"1/713623846352979940529142984724747568191373312"})
	want := fluxes{}
	for range 64 {
		want = append(want, "96")
	}
	same(t, "Flux of the greatest frame", sure[fluxes](t)(sensor.Flux(greatest(), filled(greatest(), 1.5))), want)
	for _, row := range badFrames() {
		fails[fluxes](t, "Flux", row.e)(sensor.Flux(twin(), row.frame))
	}
	for _, g := range badGeometries() {
		fails[fluxes](t, "Flux", api.ErrRange)(sensor.Flux(g, nil))
	}
}

func TestFluxFromItsDefinition(t *testing.T) {
	r := rand.New(rand.NewSource(3))
	for range 60 {
		g := someGeometries()[r.Intn(6)]
		list := randomFrame(r, g, randomSample)
		var want []api.Rat
		for lenslet := range g.Columns * g.Rows {
			want = append(want, fromBig(fluxOf(behind(g, list, lenslet))))
		}
		same(t, "Flux", sure[[]api.Rat](t)(sensor.Flux(g, list)), want)
	}
}

func TestCentroids(t *testing.T) {
	for _, row := range []struct {
		g    geometry
		list frame
		want []pair
	}{
		{twin(), frame{{1, 3, 0, 0}, {0, 0, 2, 2}}, []pair{{"1/4", "-1/2"}, {"0", "1/2"}}},
		{single(2), frame{{1, 1}, {1, 1}}, []pair{{"0", "0"}}},
		{single(2), frame{{-1, 2}, {0, 0}}, []pair{{"3/2", "-1/2"}}},
		{single(2), frame{{3, negativeZero()}, {-1, -1}}, []pair{{"-3/2", "-5/2"}}},
		{single(3), frame{{0, 0, 0}, {0, 0, 1}, {0, 1, 0}}, []pair{{"1/2", "1/2"}}},
		{single(3), frame{{2, 0, 0}, {0, 0, 0}, {0, 0, 0}}, []pair{{"-1", "-1"}}},
		{single(2), frame{{least, 0}, {0, 2 * least}}, []pair{{"1/6", "1/6"}}},
		{single(2), frame{{most, most}, {0, most}}, []pair{{"1/6", "-1/6"}}},
		{geometry{1, 2, 2}, frame{{1, 0}, {0, 0}, {0, 0}, {0, 7}}, []pair{{"-1/2", "-1/2"}, {"1/2", "1/2"}}},
	} {
		same(t, "Centroids", sure[[]pair](t)(sensor.Centroids(row.g, row.list)), row.want)
	}
}

func TestCentroidsErrors(t *testing.T) {
	for _, list := range []frame{
		{{1, 3, 0, 0}, {0, 0, 0, 0}}, {{0, 0, 1, 1}, {0, 0, 1, 1}}, {{1, 3, 1, 0}, {0, 0, -1, 0}}, {{1, 3, 1, 0}, {0, 0, -2, 0}}, {{least, 0, 1, 0}, {0, -2 * least, 2, 0}},
	} {
		fails[[]pair](t, "Centroids", api.ErrZero)(sensor.Centroids(twin(), list))
	}
	for _, row := range badFrames() {
		fails[[]pair](t, "Centroids", row.e)(sensor.Centroids(twin(), row.frame))
	}
	for _, g := range badGeometries() {
		fails[[]pair](t, "Centroids", api.ErrRange)(sensor.Centroids(g, nil))
	}
}

func TestThresholded(t *testing.T) {
	for _, row := range []struct {
		list  frame
		level api.Rat
		want  []pair
	}{
		{frame{{1, 3, 0, 0}, {0, 0, 2, 2}}, "1", []pair{{"1/2", "-1/2"}, {"0", "1/2"}}},
		{frame{{1, 3, 0, 0}, {0, 0, 2, 2}}, "0", []pair{{"1/4", "-1/2"}, {"0", "1/2"}}},
		{frame{{1, 3, 0, 0}, {0, 0, 2, 2}}, "2/3", []pair{{"3/8", "-1/2"}, {"0", "1/2"}}},
		{frame{{1, 3, -9, 0}, {0, -7, 2, 2}}, "0", []pair{{"1/4", "-1/2"}, {"0", "1/2"}}},
	} {
		same(t, "Thresholded", sure[[]pair](t)(sensor.Thresholded(twin(), row.list, row.level)), row.want)
	}
	list, level := frame{{1, 3, 0, 5}, {2, 0, 6, 2}}, "1/"+nines(300)
	same(t, "Thresholded above a long level", sure[[]pair](t)(sensor.Thresholded(twin(), list, level)), thresholded(t, twin(), list, level))
	same(t, "Thresholded", sure[[]pair](t)(sensor.Thresholded(single(2), frame{{5 * least, 3 * least}, {least, 0}}, "1/356811923176489970264571492362373784095686656")), []pair{{"-1/4", "-1/2"}})
}

// thresholded returns the centroids above a level from their definition.
func thresholded(t *testing.T, g geometry, list frame, level api.Rat) []pair {
	t.Helper()
	var want []pair
	for lenslet := range g.Columns * g.Rows {
		values := behind(g, list, lenslet)
		for _, row := range values {
			for i := range row {
				row[i] = sub(row[i], asBig(t, level))
				if row[i].Sign() < 0 {
					row[i] = new(big.Rat)
				}
			}
		}
		if fluxOf(values).Sign() <= 0 {
			return nil
		}
		want = append(want, pairOf(centroidOf(values)))
	}
	return want
}

func TestThresholdedErrors(t *testing.T) {
	g, list := twin(), frame{{1, 3, 0, 0}, {0, 0, 2, 2}}
	for level, e := range badAmounts() {
		fails[[]pair](t, "Thresholded", e)(sensor.Thresholded(g, list, level))
		fails[[]pair](t, "Thresholded", api.ErrShape)(sensor.Thresholded(g, list[:1], level))
		fails[[]pair](t, "Thresholded", api.ErrRange)(sensor.Thresholded(geometry{}, list, level))
	}
	for _, row := range badFrames() {
		fails[[]pair](t, "Thresholded", row.e)(sensor.Thresholded(g, row.frame, "x"))
	}
	fails[[]pair](t, "Thresholded", api.ErrZero)(sensor.Thresholded(g, list, "2"))
	fails[[]pair](t, "Thresholded", api.ErrZero)(sensor.Thresholded(g, list, "3"))
	fails[[]pair](t, "Thresholded", api.ErrZero)(sensor.Thresholded(g, list, nines(600)))
	fails[[]pair](t, "Thresholded", api.ErrZero)(sensor.Thresholded(g, filled(g, -1), "0"))
	// A centroid of 601 digits: before it, a flux of 0 behind a later lenslet.
	long := "1/" + nines(600)
	fails[[]pair](t, "Thresholded", api.ErrLarge)(sensor.Thresholded(single(2), frame{{5, 30}, {2, 0}}, long))
	fails[[]pair](t, "Thresholded", api.ErrLarge)(sensor.Thresholded(g, frame{{5, 30, 1, 1}, {2, 0, 1, 1}}, long))
	fails[[]pair](t, "Thresholded", api.ErrLarge)(sensor.Thresholded(g, frame{{1, 1, 5, 30}, {1, 1, 2, 0}}, long))
	fails[[]pair](t, "Thresholded", api.ErrZero)(sensor.Thresholded(g, frame{{5, 30, 0, 0}, {2, 0, 0, 0}}, long))
	same(t, "Thresholded with long numbers on the way", sure[[]pair](t)(sensor.Thresholded(g, filled(g, 7), long)), []pair{{"0", "0"}, {"0", "0"}})
}

func TestCentroidsFromTheirDefinition(t *testing.T) {
	r := rand.New(rand.NewSource(4))
	levels := []api.Rat{"0", "0", "1/3", "100", "1000/7", "999"}
	found := 0
	for range 200 {
		g := someGeometries()[r.Intn(6)]
		list := randomFrame(r, g, randomSample)
		level := levels[r.Intn(len(levels))]
		if want := thresholded(t, g, list, level); want != nil {
			same(t, "Thresholded", sure[[]pair](t)(sensor.Thresholded(g, list, level)), want)
			found++
		} else {
			fails[[]pair](t, "Thresholded", api.ErrZero)(sensor.Thresholded(g, list, level))
		}
		var want []pair
		for lenslet := range g.Columns * g.Rows {
			if values := behind(g, list, lenslet); fluxOf(values).Sign() > 0 {
				want = append(want, pairOf(centroidOf(values)))
			}
		}
		if len(want) == g.Columns*g.Rows {
			same(t, "Centroids", sure[[]pair](t)(sensor.Centroids(g, list)), want)
			found++
		} else {
			fails[[]pair](t, "Centroids", api.ErrZero)(sensor.Centroids(g, list))
		}
	}
	if found < 50 {
		t.Errorf("only %d frames had centroids", found)
	}
}

func TestCorrelated(t *testing.T) {
	type shifts = [][2]int
	star := frame{{0, 1}, {0, 0}}
	for _, row := range []struct {
		g        geometry
		list     frame
		template frame
		most     int
		want     shifts
	}{
		{single(2), frame{{0, 0}, {0, 5}}, star, 1, shifts{{0, 1}}},
		{single(2), frame{{0, 0}, {0, 5}}, star, 0, shifts{{0, 0}}},
		{single(2), frame{{0, 0}, {5, 0}}, star, 4, shifts{{-1, 1}}},
		{twin(), frame{{0, 0, 7, 0}, {0, 5, 0, 0}}, star, 2, shifts{{0, 1}, {-1, 0}}},
		// Equal correlations: the least row decides, then the least column.
		{single(2), frame{{0, 0}, {0, 0}}, star, 3, shifts{{-3, -3}}},
		{single(2), frame{{1, 1}, {1, 1}}, frame{{0, 0}, {0, 0}}, 4, shifts{{-4, -4}}},
		{single(2), frame{{2, 2}, {2, 2}}, star, 1, shifts{{-1, 0}}},
		{single(2), frame{{2, 1}, {1, 2}}, frame{{0, 0}, {0, 1}}, 1, shifts{{-1, -1}}},
		{single(2), frame{{1, 2}, {2, 1}}, frame{{0, 0}, {0, 1}}, 1, shifts{{0, -1}}},
		// Counts below 0: no overlap is better than one.
		{single(2), frame{{-1, -1}, {-1, -1}}, frame{{1, 1}, {1, 1}}, 1, shifts{{-1, -1}}},
		{single(2), frame{{-1, -1}, {-1, -1}}, frame{{1, 1}, {1, 1}}, 2, shifts{{-2, -2}}},
		{single(2), frame{{-1, -2}, {-3, -1}}, frame{{1, 1}, {1, 1}}, 0, shifts{{0, 0}}},
		{single(2), frame{{-1, 0}, {0, 0}}, frame{{0, 0}, {0, -1}}, 1, shifts{{-1, -1}}},
		{single(2), frame{{-1, 0}, {0, 0}}, frame{{0, 0}, {0, 1}}, 1, shifts{{0, -1}}},
		// Samples of all sizes are exact.
		{single(2), frame{{most, 0}, {0, -least}}, frame{{most, 0}, {0, -least}}, 1, shifts{{0, 0}}},
		{single(2), frame{{1, 1 << 24}, {1, 0}}, frame{{0, 0}, {1, 1 << 24}}, 1, shifts{{0, -1}}},
		{single(3), frame{{0, 0, 0}, {0, 0, 0}, {least, 0, 0}}, frame{{0, 0, least}, {0, 0, 0}, {0, 0, 0}}, 4, shifts{{-2, 2}}},
	} {
		same(t, "Correlated", sure[shifts](t)(sensor.Correlated(row.g, row.list, row.template, row.most)), row.want)
	}
}

func TestCorrelatedErrors(t *testing.T) {
	type shifts = [][2]int
	g, list, star, nan := twin(), filled(twin(), 1), frame{{0, 1}, {0, 0}}, noSamples()[0]
	for _, row := range []struct {
		template frame
		most     int
		e        api.Errno
	}{
		{nil, 9, api.ErrShape}, {star[:1], 1, api.ErrShape}, {append(frame{{1, 1}}, star...), 1, api.ErrShape}, {without(star, 1, 1), 9, api.ErrShape}, {without(star, 0, 0), 9, api.ErrShape},
		{frame{{1, 1, 1}, {1, 1}}, 1, api.ErrShape}, {list, 1, api.ErrShape},
		{with(star, 1, 1, nan), 9, api.ErrForm}, {with(star, 0, 0, noSamples()[1]), 1, api.ErrForm}, {with(star, 0, 1, noSamples()[2]), 1, api.ErrForm},
		{without(with(star, 0, 0, nan), 1, 1), 1, api.ErrForm}, {without(with(star, 0, 1, nan), 0, 1), 1, api.ErrShape}, {frame{{nan, 1}}, 1, api.ErrShape},
		{star, -1, api.ErrRange}, {star, 5, api.ErrRange}, {star, math.MinInt, api.ErrRange}, {star, math.MaxInt, api.ErrRange},
	} {
		fails[shifts](t, "Correlated", row.e)(sensor.Correlated(g, list, row.template, row.most))
	}
	for _, row := range badFrames() {
		fails[shifts](t, "Correlated", row.e)(sensor.Correlated(g, row.frame, frame{{nan}}, -1))
	}
	for _, bad := range badGeometries() {
		fails[shifts](t, "Correlated", api.ErrRange)(sensor.Correlated(bad, nil, nil, 0))
		fails[shifts](t, "Correlated", api.ErrRange)(sensor.Correlated(bad, list, star, 1))
	}
}

// bestShift returns the best shift of a template from its definition.
func bestShift(values, template [][]*big.Rat, most int) [2]int {
	var best [2]int
	var greatest *big.Rat
	side := len(values)
	for b := -most; b <= most; b++ {
		for a := -most; a <= most; a++ {
			sum := new(big.Rat)
			for k := range side {
				for i := range side {
					if x, y := i-a, k-b; x >= 0 && x < side && y >= 0 && y < side {
						sum = add(sum, mul(values[k][i], template[y][x]))
					}
				}
			}
			if greatest == nil || sum.Cmp(greatest) > 0 {
				best, greatest = [2]int{a, b}, sum
			}
		}
	}
	return best
}

func TestCorrelatedFromItsDefinition(t *testing.T) {
	r := rand.New(rand.NewSource(5))
	digit := func(r *rand.Rand) float32 { return float32(r.Intn(4) - 1) }
	rare := func(r *rand.Rand) float32 { return float32(r.Intn(9) / 8) }
	for range 40 {
		for _, g := range someGeometries()[:4] {
			sample := []func(*rand.Rand) float32{digit, rare, randomSample}[r.Intn(3)]
			list, template, shift := randomFrame(r, g, sample), randomFrame(r, single(g.Side), sample), r.Intn(5)
			if r.Intn(3) == 0 {
				// The first subaperture is a multiple of the template, shifted by a row.
				clear(template[g.Side-1])
				factor := float32(r.Intn(3) - 1)
				for k := range g.Side {
					for i := range g.Side {
						list[k][i] = factor * template[(k+g.Side-1)%g.Side][i]
					}
				}
			}
			var want [][2]int
			for lenslet := range g.Columns * g.Rows {
				want = append(want, bestShift(behind(g, list, lenslet), behind(single(g.Side), template, 0), shift))
			}
			same(t, "Correlated", sure[[][2]int](t)(sensor.Correlated(g, list, template, shift)), want)
		}
	}
}
