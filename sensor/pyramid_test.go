package sensor_test

import (
	"math"
	"math/big"
	"math/rand"
	"testing"

	"lenslet/api"
	"lenslet/sensor"
)

// P3.5: the images and signals of a pyramid.

type images = [4][][]api.Rat

func TestImages(t *testing.T) {
	zero, one := square[api.Rat](2, "0"), square[api.Rat](2, "1")
	for _, row := range []struct {
		phases phases
		want   images
	}{
		{phases{{0, 0}, {0, 0}}, images{one, zero, zero, zero}},
		{phases{{7, 3}, {-1, -5}}, images{one, zero, zero, zero}},
		{phases{{0, 2}, {0, 2}}, images{zero, one, zero, zero}},
		{phases{{0, 0}, {2, 2}}, images{zero, zero, one, zero}},
		{phases{{0, 2}, {2, 0}}, images{zero, zero, zero, one}},
		{phases{{0, 1}, {2, 3}}, images{zero, zero, square[api.Rat](2, "1/2"), square[api.Rat](2, "1/2")}},
		{phases{{0, 1}, {1, 0}}, images{square[api.Rat](2, "1/2"), zero, zero, square[api.Rat](2, "1/2")}},
		{square(4, 2), images{square[api.Rat](4, "1"), square[api.Rat](4, "0"), square[api.Rat](4, "0"), square[api.Rat](4, "0")}},
		// A tilt by a quarter turn for each column moves the light to the index 1.
		{phases{{0, 1, 2, 3}, {0, 1, 2, 3}, {0, 1, 2, 3}, {0, 1, 2, 3}}, images{square[api.Rat](4, "1"), square[api.Rat](4, "0"), square[api.Rat](4, "0"), square[api.Rat](4, "0")}},
		{phases{{0, 3, 2, 1}, {0, 3, 2, 1}, {0, 3, 2, 1}, {0, 3, 2, 1}}, images{square[api.Rat](4, "0"), square[api.Rat](4, "1"), square[api.Rat](4, "0"), square[api.Rat](4, "0")}},
		{phases{{0, 0, 0, 0}, {3, 3, 3, 3}, {2, 2, 2, 2}, {1, 1, 1, 1}}, images{square[api.Rat](4, "0"), square[api.Rat](4, "0"), square[api.Rat](4, "1"), square[api.Rat](4, "0")}},
	} {
		same(t, "Images", sure[images](t)(sensor.Images(row.phases)), row.want)
	}
	fails[images](t, "Images", api.ErrRange)(sensor.Images(square(8, 0)))
	for _, row := range badSquares(3) {
		if len(row.table) == 8 {
			row.e = api.ErrRange // before that of its rows
		}
		fails[images](t, "Images", row.e)(sensor.Images(row.table))
	}
}

// imagesOf returns the images of a pyramid from their definition, with
// float64 factors: they are 0, 1 or -1 but for errors that are far smaller
// than the distance of two values.
func imagesOf(p phases) images {
	side := len(p)
	factor := func(steps int) complex128 {
		sine, cosine := math.Sincos(2 * math.Pi * float64(steps) / float64(side))
		return complex(cosine, -sine)
	}
	v := square(side, complex128(0))
	for k := range side {
		for l := range side {
			for a := range side {
				for b := range side {
					u := []complex128{1, 1i, -1, -1i}[(p[a][b]%4+4)%4]
					v[k][l] += u * factor(a*k+b*l)
				}
			}
		}
	}
	list := images{}
	for q := range list {
		list[q] = square[api.Rat](side, "")
		for a := range side {
			for b := range side {
				sum := complex128(0)
				for k := q / 2 * side / 2; k < (q/2+1)*side/2; k++ {
					for l := q % 2 * side / 2; l < (q%2+1)*side/2; l++ {
						conjugate := complex(real(factor(a*k+b*l)), -imag(factor(a*k+b*l)))
						sum += v[k][l] * conjugate
					}
				}
				norm := math.Round(real(sum)*real(sum) + imag(sum)*imag(sum))
				list[q][a][b] = fromBig(ratio(int(norm), side*side*side*side))
			}
		}
	}
	return list
}

func randomPhases(r *rand.Rand, side int) phases {
	p := square(side, 0)
	for _, row := range p {
		for b := range row {
			row[b] = r.Intn(17) - 8
		}
	}
	return p
}

func TestImagesFromTheirDefinition(t *testing.T) {
	r := rand.New(rand.NewSource(12))
	for i := range 100 {
		p := randomPhases(r, 2+i%2*2)
		same(t, "Images", sure[images](t)(sensor.Images(p)), imagesOf(p))
	}
}

func TestSignals(t *testing.T) {
	type signals = [][]pair
	zero, one := square[api.Rat](2, "0"), square[api.Rat](2, "1")
	huge := square(2, nines(600))
	for _, row := range []struct {
		images images
		want   signals
	}{
		{images{one, zero, zero, zero}, square(2, pair{"1", "1"})}, {images{zero, one, zero, zero}, square(2, pair{"-1", "1"})},
		{images{zero, zero, one, zero}, square(2, pair{"1", "-1"})}, {images{zero, zero, zero, one}, square(2, pair{"-1", "-1"})},
		{images{one, one, one, one}, square(2, pair{"0", "0"})},
		{images{put(zero, 0, 1, "1"), put(zero, 1, 0, "3"), zero, zero}, signals{{{"0", "0"}, {"1", "1"}}, {{"-3", "3"}, {"0", "0"}}}},
		{images{one, zero, put(zero, 1, 1, "4"), zero}, signals{{{"1/2", "1/2"}, {"1/2", "1/2"}}, {{"1/2", "1/2"}, {"5/2", "-3/2"}}}},
		// Values below 0 are permitted.
		{images{put(zero, 0, 0, "-1"), zero, zero, put(zero, 1, 1, "2/3")}, signals{{{"12", "12"}, {"0", "0"}}, {{"0", "0"}, {"8", "8"}}}},
		{images{huge, huge, huge, huge}, square(2, pair{"0", "0"})}, {images{huge, zero, zero, zero}, square(2, pair{"1", "1"})},
		{images{square[api.Rat](8, "2"), square[api.Rat](8, "0"), square[api.Rat](8, "0"), square[api.Rat](8, "1")}, square(8, pair{"1/3", "1/3"})},
	} {
		same(t, "Signals", sure[signals](t)(sensor.Signals(row.images)), row.want)
	}
}

func TestSignalsErrors(t *testing.T) {
	type signals = [][]pair
	zero, one := square[api.Rat](2, "0"), square[api.Rat](2, "1")
	wrong := square[api.Rat](3, "x")
	for _, row := range badSquares[api.Rat]("1") {
		fails[signals](t, "Signals", row.e)(sensor.Signals(images{row.table, wrong, wrong, wrong}))
		fails[signals](t, "Signals", api.ErrShape)(sensor.Signals(images{one, row.table, wrong, wrong}))
		fails[signals](t, "Signals", api.ErrShape)(sensor.Signals(images{one, one, one, row.table}))
	}
	for a, e := range badNumbers() {
		for q := range 4 {
			list := images{one, one, one, one}
			for later := q; later < 4; later++ {
				list[later] = wrong
			}
			list[q] = put(put(one, 1, 1, "?"), 1, 0, a)
			fails[signals](t, "Signals", e)(sensor.Signals(list))
			list[q] = cut(put(one, 0, 1, a), 1, 1)
			fails[signals](t, "Signals", e)(sensor.Signals(list))
			list[q] = cut(put(one, 1, 0, a), 0, 1)
			fails[signals](t, "Signals", api.ErrShape)(sensor.Signals(list))
			list[q] = cut(put(one, 0, 0, a), 0, 1)
			fails[signals](t, "Signals", api.ErrShape)(sensor.Signals(list))
		}
	}
	for _, list := range []images{{}, {nil, one, one, one}, {wrong, one, one, one}} {
		fails[signals](t, "Signals", api.ErrRange)(sensor.Signals(list))
	}
	fails[signals](t, "Signals", api.ErrShape)(sensor.Signals(images{one, nil, wrong, wrong}))
	fails[signals](t, "Signals", api.ErrShape)(sensor.Signals(images{one, one, square[api.Rat](4, "1"), one}))
	for _, list := range []images{{zero, zero, zero, zero}, {one, square[api.Rat](2, "-1"), zero, zero}, {put(zero, 0, 0, "1/2"), zero, put(zero, 1, 0, "-1/2"), zero}} {
		fails[signals](t, "Signals", api.ErrZero)(sensor.Signals(list))
	}
	fails[signals](t, "Signals", api.ErrLarge)(sensor.Signals(images{put(one, 0, 0, nines(600)), one, zero, put(zero, 1, 1, "1/7")}))
	fails[signals](t, "Signals", api.ErrLarge)(sensor.Signals(images{put(zero, 0, 0, nines(600)), put(zero, 0, 0, "-"+nines(599)+"8"), zero, zero}))
	fails[signals](t, "Signals", api.ErrZero)(sensor.Signals(images{put(zero, 0, 0, nines(600)), put(zero, 0, 0, "-"+nines(600)), zero, zero}))
}

func TestSignalsFromTheirDefinition(t *testing.T) {
	r := rand.New(rand.NewSource(13))
	for i := range 60 {
		side := []int{2, 4, 8}[i%3]
		list, total := images{}, new(big.Rat)
		for q := range list {
			list[q] = square[api.Rat](side, "0")
			for _, row := range list[q] {
				for b := range row {
					x := ratio(r.Intn(30)-3, r.Intn(5)+1)
					row[b], total = fromBig(x), add(total, x)
				}
			}
		}
		mean := mul(total, ratio(1, side*side))
		if mean.Sign() == 0 {
			continue
		}
		want := square(side, pair{})
		for a := range side {
			for b := range side {
				x, y := new(big.Rat), new(big.Rat)
				for q := range list {
					value := asBig(t, list[q][a][b])
					x = add(x, mul(value, ratio([]int{1, -1, 1, -1}[q], 1)))
					y = add(y, mul(value, ratio([]int{1, 1, -1, -1}[q], 1)))
				}
				want[a][b] = pair{fromBig(div(x, mean)), fromBig(div(y, mean))}
			}
		}
		same(t, "Signals", sure[[][]pair](t)(sensor.Signals(list)), want)
	}
}
