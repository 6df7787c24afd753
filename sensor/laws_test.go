package sensor_test

import (
	"math/big"
	"math/rand"
	"testing"

	"lenslet/api"
	"lenslet/number"
	"lenslet/sensor"
)

// P3.6: consequences.

func TestCentroidOfSpotIsItsPlace(t *testing.T) {
	r := rand.New(rand.NewSource(14))
	for range 60 {
		g := someGeometries()[r.Intn(6)]
		var places []pair
		for range g.Columns * g.Rows {
			places = append(places, pairOf(randomPlace(r, g.Side, 64)))
		}
		// Shares of 64ths times 64ths of a small integer are floats.
		flux := fromBig(ratio(r.Intn(99)+1, 1))
		list := sure[frame](t)(sensor.Spots(g, places, flux))
		same(t, "Centroids of spots", sure[[]pair](t)(sensor.Centroids(g, list)), places)
		for _, sum := range sure[[]api.Rat](t)(sensor.Flux(g, list)) {
			same(t, "Flux of a spot", sum, flux)
		}
	}
}

func TestFrameTimesNumberKeepsItsCentroids(t *testing.T) {
	r := rand.New(rand.NewSource(15))
	for range 60 {
		g := someGeometries()[r.Intn(6)]
		list := randomFrame(r, g, randomCount)
		want, e := sensor.Centroids(g, list)
		if e != api.OK {
			continue
		}
		factor := float32(r.Intn(7) + 1)
		for _, row := range list {
			for column := range row {
				row[column] *= factor
			}
		}
		same(t, "Centroids of a multiple", sure[[]pair](t)(sensor.Centroids(g, list)), want)
	}
}

func TestShiftedFrameMovesItsCentroids(t *testing.T) {
	r := rand.New(rand.NewSource(16))
	for range 60 {
		g := someGeometries()[2+r.Intn(4)]
		shift := [2]int{r.Intn(g.Side-1) - (g.Side-1)/2, r.Intn(g.Side-1) - (g.Side-1)/2}
		list, moved := filled(g, 0), filled(g, 0)
		for row := range list {
			for column := range list[row] {
				x, y := column%g.Side+shift[0], row%g.Side+shift[1]
				if x >= 0 && x < g.Side && y >= 0 && y < g.Side {
					list[row][column] = randomCount(r) + 1
					moved[row+shift[1]][column+shift[0]] = list[row][column]
				}
			}
		}
		want := sure[[]pair](t)(sensor.Centroids(g, list))
		for i := range want {
			for axis := range 2 {
				want[i][axis] = fromBig(add(asBig(t, want[i][axis]), ratio(shift[axis], 1)))
			}
		}
		same(t, "Centroids of a shifted frame", sure[[]pair](t)(sensor.Centroids(g, moved)), want)
	}
}

func TestCentroidWithinTheErrorLiesInItsSpan(t *testing.T) {
	r := rand.New(rand.NewSource(17))
	for range 80 {
		g := someGeometries()[r.Intn(6)]
		list := randomFrame(r, g, randomCount)
		e := ratio(r.Intn(64), 8)
		lenslet := r.Intn(g.Columns * g.Rows)
		ends, failed := sensor.Uncertain(g, list, lenslet, fromBig(e))
		if failed != api.OK {
			continue
		}
		for range 10 {
			values := behind(g, list, lenslet)
			for _, row := range values {
				for i, x := range row {
					share := ratio(r.Intn(9)-4, 4)
					row[i] = add(x, mul(e, share))
					if row[i].Sign() < 0 {
						row[i] = new(big.Rat)
					}
				}
			}
			for axis, x := range centroidOf(values) {
				if x.Cmp(asBig(t, ends[axis].Low)) < 0 || x.Cmp(asBig(t, ends[axis].High)) > 0 {
					t.Errorf("the centroid %v does not lie between %v and %v", x, ends[axis].Low, ends[axis].High)
				}
			}
		}
	}
}

func TestShiftedStarIsFound(t *testing.T) {
	r := rand.New(rand.NewSource(18))
	for range 200 {
		g := someGeometries()[r.Intn(6)]
		reach := r.Intn(5)
		x, y := r.Intn(g.Side), r.Intn(g.Side)
		template := with(filled(single(g.Side), 0), x, y, randomCount(r)+1)
		list := filled(g, 0)
		var want [][2]int
		for lenslet := range g.Columns * g.Rows {
			shift := [2]int{r.Intn(2*reach+1) - reach, r.Intn(2*reach+1) - reach}
			for x+shift[0] < 0 || x+shift[0] >= g.Side || y+shift[1] < 0 || y+shift[1] >= g.Side {
				shift = [2]int{r.Intn(2*reach+1) - reach, r.Intn(2*reach+1) - reach}
			}
			column, row := lenslet%g.Columns*g.Side+x+shift[0], lenslet/g.Columns*g.Side+y+shift[1]
			list[row][column] = template[y][x]
			want = append(want, shift)
		}
		same(t, "Correlated with a shifted star", sure[[][2]int](t)(sensor.Correlated(g, list, template, reach)), want)
	}
}

func TestPyramidOfEqualPhases(t *testing.T) {
	for _, side := range []int{2, 4} {
		want := sure[images](t)(sensor.Images(square(side, 0)))
		for phase := -5; phase <= 5; phase++ {
			same(t, "Images of equal phases", sure[images](t)(sensor.Images(square(side, phase))), want)
		}
	}
	// A phase that is added everywhere changes no image.
	r := rand.New(rand.NewSource(19))
	for range 40 {
		p := randomPhases(r, 4)
		want := sure[images](t)(sensor.Images(p))
		for _, row := range p {
			for b := range row {
				row[b] += 3
			}
		}
		same(t, "Images of added phases", sure[images](t)(sensor.Images(p)), want)
	}
}

func TestTransformOfEqualPhases(t *testing.T) {
	for _, side := range []int{2, 4, 8} {
		u := sure[field](t)(sensor.Field(square(side, 0)))
		want := put(square(side, complex64(0)), 0, 0, complex(float32(side*side), 0))
		sameField(t, "Transform", sure[field](t)(sensor.Transform(u)), want)
		same(t, "CheckTransform", sensor.CheckTransform(u, want), api.OK)
	}
}

func TestTransformOfSums(t *testing.T) {
	r := rand.New(rand.NewSource(20))
	small := func() complex64 { return complex(float32(r.Intn(199)-99), float32(r.Intn(199)-99)) }
	for i := range 60 {
		side := []int{2, 4, 4, 8}[i%4]
		u, v, sum := square(side, complex64(0)), square(side, complex64(0)), square(side, complex64(0))
		for a := range side {
			for b := range side {
				u[a][b], v[a][b] = small(), small()
				sum[a][b] = u[a][b] + v[a][b]
			}
		}
		x, y := sure[field](t)(sensor.Transform(u)), sure[field](t)(sensor.Transform(v))
		for a := range side {
			for b := range side {
				x[a][b] += y[a][b]
			}
		}
		if side < 8 {
			sameField(t, "Transform of a sum", sure[field](t)(sensor.Transform(sum)), x)
		}
		z := sure[field](t)(sensor.Transform(sum))
		for a := range side {
			for b := range side {
				// Both errors are within the tolerances of their fields.
				most := add(toleranceOf(sum), add(toleranceOf(u), toleranceOf(v)))
				for _, d := range []float32{real(z[a][b]) - real(x[a][b]), imag(z[a][b]) - imag(x[a][b])} {
					if exact(max(d, -d)).Cmp(most) > 0 {
						t.Errorf("Transform of a sum differs by %v from the sum", d)
					}
				}
			}
		}
	}
}

// TestCalibratedSpotsHaveTheirSlopes follows spots through all functions.
func TestCalibratedSpotsHaveTheirSlopes(t *testing.T) {
	g := geometry{2, 2, 4}
	places := []pair{{"0", "0"}, {"1/4", "-1/2"}, {"-5/4", "3/4"}, {"1", "1"}}
	light := sure[frame](t)(sensor.Spots(g, places, "64"))
	raw := filled(g, 0)
	for row := range raw {
		for column := range raw[row] {
			raw[row][column] = light[row][column]*2 + 10
		}
	}
	list := sure[frame](t)(sensor.Calibrated(g, camera(g, 10, 2), raw))
	same(t, "Calibrated", list, light)
	centroids := sure[[]pair](t)(sensor.Centroids(g, list))
	var want []api.Rat
	for _, place := range places {
		want = append(want, sure[api.Rat](t)(number.Sub(place[0], "1/8")), sure[api.Rat](t)(number.Sub(place[1], "-1")))
	}
	reference := []pair{{"1/8", "-1"}, {"1/8", "-1"}, {"1/8", "-1"}, {"1/8", "-1"}}
	same(t, "Slopes", sure[[]api.Rat](t)(sensor.Slopes(centroids, reference)), want)
}
