package sensor_test

import (
	"math/big"
	"math/rand"
	"slices"
	"testing"

	"lenslet/api"
	"lenslet/sensor"
)

// P3.4: slopes.

func TestSlopes(t *testing.T) {
	type slopes = []api.Rat
	for _, row := range []struct {
		centroids, reference []pair
		want                 slopes
	}{
		{nil, nil, nil},
		{[]pair{{"0", "0"}, {"1/4", "-1/2"}}, []pair{{"0", "0"}, {"0", "0"}}, slopes{"0", "0", "1/4", "-1/2"}},
		{[]pair{{"1/4", "-1/2"}}, []pair{{"1/4", "-1/2"}}, slopes{"0", "0"}},
		{[]pair{{"1/4", "1/3"}}, []pair{{"1/4", "-1/2"}}, slopes{"0", "5/6"}},
		{[]pair{{"1/4", "1/3"}}, []pair{{"1/3", "1/4"}}, slopes{"-1/12", "1/12"}},
		{[]pair{{"700", nines(600)}}, []pair{{"-9000", nines(600)}}, slopes{"9700", "0"}},
	} {
		same(t, "Slopes", sure[slopes](t)(sensor.Slopes(row.centroids, row.reference)), row.want)
	}
	many := slices.Repeat([]pair{{"5", "3"}}, 64)
	same(t, "Slopes of as many as possible", sure[slopes](t)(sensor.Slopes(many, slices.Repeat([]pair{{"1", "1/2"}}, 64))), slices.Repeat(slopes{"4", "5/2"}, 64))
}

func TestSlopesErrors(t *testing.T) {
	type slopes = []api.Rat
	one := []pair{{"1", "2"}}
	for _, row := range []struct {
		centroids, reference []pair
		e                    api.Errno
	}{
		{make([]pair, 65), make([]pair, 66), api.ErrMany}, {one, make([]pair, 65), api.ErrMany}, {nil, make([]pair, 65), api.ErrMany},
		{[]pair{{"x", tenTo(600)}}, make([]pair, 65), api.ErrForm}, {[]pair{{tenTo(600), "x"}}, make([]pair, 65), api.ErrLarge}, {[]pair{{"1", "2"}, {"3", tenTo(600)}, {"x", "x"}}, one, api.ErrLarge},
		{one, nil, api.ErrShape}, {nil, one, api.ErrShape}, {one, []pair{{"1", "2"}, {"1", "2"}}, api.ErrShape}, {nil, []pair{{"x", "1"}}, api.ErrForm},
		{[]pair{{nines(600), "0"}}, []pair{{"-1", "0"}}, api.ErrLarge}, {[]pair{{"0", "0"}, {"0", "-" + nines(600)}}, []pair{{"0", "0"}, {"0", "1"}}, api.ErrLarge},
		{[]pair{{"0", "1/" + nines(600)}}, []pair{{"0", "1/" + nines(599)}}, api.ErrLarge}, {[]pair{{nines(600), "0"}}, nil, api.ErrShape},
	} {
		fails[slopes](t, "Slopes", row.e)(sensor.Slopes(row.centroids, row.reference))
	}
	for a, e := range badNumbers() {
		for _, bad := range [][]pair{{{a, "0"}}, {{"0", a}}, {{"0", "0"}, {a, "?"}}} {
			fails[slopes](t, "Slopes", e)(sensor.Slopes(bad, []pair{{"?", "?"}}))
			fails[slopes](t, "Slopes", e)(sensor.Slopes(one, bad))
		}
	}
}

func TestSlopesFromTheirDefinition(t *testing.T) {
	r := rand.New(rand.NewSource(7))
	for range 100 {
		var centroids, reference []pair
		var want []api.Rat
		for range r.Intn(65) {
			c, d := [2]*big.Rat{}, [2]*big.Rat{}
			for axis := range 2 {
				c[axis], d[axis] = ratio(r.Intn(9)-4, r.Intn(3)+1), ratio(r.Intn(9)-4, r.Intn(3)+1)
				want = append(want, fromBig(sub(c[axis], d[axis])))
			}
			centroids, reference = append(centroids, pairOf(c)), append(reference, pairOf(d))
		}
		same(t, "Slopes", sure[[]api.Rat](t)(sensor.Slopes(centroids, reference)), want)
	}
}

func TestSpots(t *testing.T) {
	third := nearest(ratio(1, 3))
	for _, row := range []struct {
		g      geometry
		places []pair
		flux   api.Rat
		want   frame
	}{
		{twin(), []pair{{"0", "0"}, {"1/4", "-1/2"}}, "4", frame{{1, 1, 1, 3}, {1, 1, 0, 0}}},
		{twin(), []pair{{"1/2", "1/2"}, {"-1/2", "1/2"}}, "1", frame{{0, 0, 0, 0}, {0, 1, 1, 0}}},
		{twin(), []pair{{"0", "1/2"}, {"1/2", "1/4"}}, "0", filled(twin(), 0)},
		{single(3), []pair{{"0", "0"}}, "2/3", frame{{0, 0, 0}, {0, 2 * third, 0}, {0, 0, 0}}},
		{single(3), []pair{{"1", "-1"}}, "1", frame{{0, 0, 1}, {0, 0, 0}, {0, 0, 0}}},
		{single(3), []pair{{"-3/4", "1/2"}}, "8", frame{{0, 0, 0}, {3, 1, 0}, {3, 1, 0}}},
		{geometry{1, 2, 2}, []pair{{"-1/2", "-1/2"}, {"0", "1/2"}}, "2", frame{{2, 0}, {0, 0}, {0, 0}, {1, 1}}},
		{single(2), []pair{{"1/6", "-1/2"}}, "1", frame{{third, nearest(ratio(2, 3))}, {0, 0}}},
		{single(2), []pair{{"1/2", "1/2"}}, "340282346638528859811704183484516925440", frame{{0, 0}, {0, most}}},
		{single(2), []pair{{"0", "0"}}, "1361129386554115439246816733938067701760", frame{{most, most}, {most, most}}},
		// Numbers that are too long on the way: the parts are 1/2 almost.
		{single(2), []pair{{"1/" + nines(600), "-1/" + nines(599)}}, "4", filled(single(2), 1)},
		{single(2), []pair{{"1/" + nines(600), "1/2"}}, "1/" + nines(600), filled(single(2), 0)},
	} {
		sameFrame(t, "Spots", sure[frame](t)(sensor.Spots(row.g, row.places, row.flux)), row.want)
	}
}

func TestSpotsOfLongNumbers(t *testing.T) {
	// The share of a pixel is by a little more, or less, than half of a float
	// above one: no digit of the product may be lost.
	half := add(ratio(1, 1), ratio(1, 1<<24))
	step := fromBig(mul(half, ratio(4, 1)))
	for _, row := range []struct {
		x    api.Rat
		want frame
	}{
		{"0", frame{{1, 1}, {1, 1}}},
		{"1/" + nines(600), frame{{1, 1 + 1.0/(1<<23)}, {1, 1 + 1.0/(1<<23)}}},
		{"-1/" + nines(600), frame{{1 + 1.0/(1<<23), 1}, {1 + 1.0/(1<<23), 1}}},
	} {
		sameFrame(t, "Spots", sure[frame](t)(sensor.Spots(single(2), []pair{{row.x, "0"}}, step)), row.want)
	}
}

func TestSpotsErrors(t *testing.T) {
	g, good := twin(), []pair{{"0", "0"}, {"0", "0"}}
	for _, row := range []struct {
		places []pair
		flux   api.Rat
		e      api.Errno
	}{
		{nil, "x", api.ErrShape}, {good[:1], "1", api.ErrShape}, {make([]pair, 3), "1", api.ErrShape}, {make([]pair, 1), "1", api.ErrShape},
		{[]pair{{"3/4", "x"}, {"0", "0"}}, "1", api.ErrForm}, {[]pair{{"x", tenTo(600)}, {"0", "0"}}, "1", api.ErrForm}, {[]pair{{tenTo(600), "x"}, {"0", "0"}}, "1", api.ErrLarge},
		{[]pair{{"1", "0"}, {"x", "0"}}, "x", api.ErrOutside}, {[]pair{{"0", "-1"}, {"x", "0"}}, "x", api.ErrOutside}, {[]pair{{"0", "0"}, {"0", "500001/1000000"}}, "-1", api.ErrOutside},
		{[]pair{{"0", "0"}, {"-500001/1000000", "0"}}, "1", api.ErrOutside}, {[]pair{{"x", "0"}, {"1", "0"}}, "x", api.ErrForm},
		{[]pair{{"0", "0"}, {"1/2", "1/2"}}, tenTo(39), api.ErrLarge}, {[]pair{{"0", "0"}, {"1/2", "1/2"}}, "340282366920938463463374607431768211456", api.ErrLarge}, {good, nines(600), api.ErrLarge},
	} {
		fails[frame](t, "Spots", row.e)(sensor.Spots(g, row.places, row.flux))
	}
	for a, e := range badNumbers() {
		for _, bad := range [][]pair{{{a, "0"}, {"x", "0"}}, {{"0", a}, {"9", "0"}}, {{"0", "0"}, {a, "0"}}, {{"0", "0"}, {"9", a}}} {
			fails[frame](t, "Spots", e)(sensor.Spots(g, bad, "-1"))
		}
	}
	for a, e := range badAmounts() {
		fails[frame](t, "Spots", e)(sensor.Spots(g, good, a))
	}
	for _, bad := range badGeometries() {
		fails[frame](t, "Spots", api.ErrRange)(sensor.Spots(bad, nil, "x"))
		fails[frame](t, "Spots", api.ErrRange)(sensor.Spots(bad, good, "x"))
	}
	// The places between the outermost centres depend on the side.
	for side := 2; side <= 8; side++ {
		last := fromBig(ratio(side-1, 2))
		sure[frame](t)(sensor.Spots(single(side), []pair{{last, "-" + last}}, "1"))
		fails[frame](t, "Spots", api.ErrOutside)(sensor.Spots(single(side), []pair{{"0", fromBig(add(asBig(t, last), ratio(1, 1000)))}}, "1"))
	}
}

// spotOf returns the shares of a spot from their definition.
func spotOf(side int, place [2]*big.Rat, flux *big.Rat) [][]*big.Rat {
	parts := [2][]*big.Rat{}
	for axis := range 2 {
		position := add(place[axis], ratio(side-1, 2))
		whole := new(big.Int).Quo(position.Num(), position.Denom()).Int64()
		fraction := sub(position, ratio(int(whole), 1))
		for range side + 1 {
			parts[axis] = append(parts[axis], new(big.Rat))
		}
		parts[axis][whole] = sub(ratio(1, 1), fraction)
		parts[axis][whole+1] = fraction
	}
	shares := make([][]*big.Rat, side)
	for k := range side {
		for i := range side {
			shares[k] = append(shares[k], mul(flux, mul(parts[0][i], parts[1][k])))
		}
	}
	return shares
}

// randomPlace returns a place in a subaperture, in steps of a fraction.
func randomPlace(r *rand.Rand, side, steps int) [2]*big.Rat {
	place := [2]*big.Rat{}
	for axis := range place {
		place[axis] = sub(ratio(r.Intn((side-1)*steps+1), steps), ratio(side-1, 2))
	}
	return place
}

func TestSpotsFromTheirDefinition(t *testing.T) {
	r := rand.New(rand.NewSource(8))
	for range 100 {
		g := someGeometries()[r.Intn(6)]
		flux := ratio(r.Intn(100000), r.Intn(99)+1)
		var places []pair
		want := filled(g, 0)
		for lenslet := range g.Columns * g.Rows {
			place := randomPlace(r, g.Side, r.Intn(12)+1)
			places = append(places, pairOf(place))
			for k, row := range spotOf(g.Side, place, flux) {
				for i, share := range row {
					want[lenslet/g.Columns*g.Side+k][lenslet%g.Columns*g.Side+i] = nearest(share)
				}
			}
		}
		sameFrame(t, "Spots", sure[frame](t)(sensor.Spots(g, places, fromBig(flux))), want)
	}
}
