package sensor_test

import (
	"math"
	"math/big"
	"math/rand"
	"reflect"
	"strings"
	"testing"

	"lenslet/api"
	"lenslet/number"
	"lenslet/sensor"
)

type (
	frame    = [][]float32
	field    = [][]complex64
	phases   = [][]int
	pair     = [2]api.Rat
	image    = [][]api.Rat
	geometry = sensor.Geometry
)

// same reports a result that differs from the expected one; a nil slice and
// an empty one are the same.
func same[T any](t *testing.T, what string, got, want T) {
	t.Helper()
	g, w := reflect.ValueOf(got), reflect.ValueOf(want)
	if g.Kind() == reflect.Slice && g.Len() == 0 && w.Len() == 0 {
		return
	}
	if !reflect.DeepEqual(got, want) {
		t.Errorf("%s: got %v, want %v", what, got, want)
	}
}

// fails reports a call that does not return an error beside a zero value.
func fails[T any](t *testing.T, what string, want api.Errno) func(T, api.Errno) {
	t.Helper()
	return func(got T, e api.Errno) {
		t.Helper()
		var zero T
		if e != want {
			t.Errorf("%s: got error %d, want %d", what, e, want)
		}
		same(t, what+" beside an error", got, zero)
	}
}

// sure returns a result that has no error.
func sure[T any](t *testing.T) func(T, api.Errno) T {
	t.Helper()
	return func(got T, e api.Errno) T {
		t.Helper()
		if e != api.OK {
			t.Fatalf("error %d", e)
		}
		return got
	}
}

// sameFrame reports a frame that differs from the expected one, or has a -0.
func sameFrame(t *testing.T, what string, got, want frame) {
	t.Helper()
	same(t, what, got, want)
	for _, row := range got {
		for _, f := range row {
			if f == 0 && math.Signbit(float64(f)) {
				t.Errorf("%s: a sample is -0", what)
			}
		}
	}
}

func asBig(t *testing.T, a api.Rat) *big.Rat {
	t.Helper()
	if e := number.Check(a); e != api.OK {
		t.Fatalf("%q is no number: error %d", a, e)
	}
	x, ok := new(big.Rat).SetString(string(a))
	if !ok {
		t.Fatalf("%q is no number", a)
	}
	return x
}

func fromBig(x *big.Rat) api.Rat { return api.Rat(x.RatString()) }

func exact(f float32) *big.Rat { return new(big.Rat).SetFloat64(float64(f)) }

// nearest returns the nearest float to a number; its 0 has no sign.
func nearest(x *big.Rat) float32 {
	f, _ := x.Float32()
	if f == 0 {
		return 0
	}
	return f
}

func add(x, y *big.Rat) *big.Rat { return new(big.Rat).Add(x, y) }

func sub(x, y *big.Rat) *big.Rat { return new(big.Rat).Sub(x, y) }

func mul(x, y *big.Rat) *big.Rat { return new(big.Rat).Mul(x, y) }

func div(x, y *big.Rat) *big.Rat { return new(big.Rat).Quo(x, y) }

func ratio(num, den int) *big.Rat { return big.NewRat(int64(num), int64(den)) }

func nines(n int) api.Rat { return api.Rat(strings.Repeat("9", n)) }

// tenTo returns 10^n.
func tenTo(n int) api.Rat { return api.Rat("1" + strings.Repeat("0", n)) }

// badNumbers are strings with the errors of number.Check.
func badNumbers() map[api.Rat]api.Errno {
	return map[api.Rat]api.Errno{"": api.ErrForm, "x": api.ErrForm, "2/4": api.ErrForm, "1/0": api.ErrForm, "-0": api.ErrForm, tenTo(600): api.ErrLarge, "1/" + tenTo(600): api.ErrLarge}
}

// badAmounts are strings with the errors of numbers that must be at least 0.
func badAmounts() map[api.Rat]api.Errno {
	list := badNumbers()
	list["-1"] = api.ErrRange
	list["-1/"+nines(600)] = api.ErrRange
	return list
}

func noSamples() []float32 {
	return []float32{float32(math.NaN()), float32(math.Inf(1)), float32(math.Inf(-1))}
}

func negativeZero() float32 { return float32(math.Copysign(0, -1)) }

const (
	most  = math.MaxFloat32
	least = math.SmallestNonzeroFloat32
)

// twin is the geometry of the document's examples.
func twin() geometry { return geometry{Columns: 2, Rows: 1, Side: 2} }

// single has one lenslet with a side of some pixels.
func single(side int) geometry { return geometry{Columns: 1, Rows: 1, Side: side} }

// greatest has as many lenslets and pixels as possible.
func greatest() geometry { return geometry{Columns: 8, Rows: 8, Side: 8} }

// badGeometries have no size that is possible.
func badGeometries() []geometry {
	return []geometry{
		{}, {0, 1, 2}, {9, 1, 2}, {1, 0, 2}, {1, 9, 2}, {1, 1, 1}, {1, 1, 9}, {-1, 1, 2}, {1, -1, 2}, {1, 1, -2}, {-1, -1, 2},
		{math.MinInt, math.MinInt, math.MinInt}, {math.MaxInt, math.MaxInt, math.MaxInt}, {1, 1 << 62, 4}, {1 << 32, 1 << 32, 2},
	}
}

// someGeometries have sizes of all kinds.
func someGeometries() []geometry {
	return []geometry{{1, 1, 2}, {2, 1, 2}, {1, 2, 3}, {3, 2, 4}, {2, 3, 5}, {1, 1, 8}}
}

// filled returns a frame with the same sample in all pixels.
func filled(g geometry, f float32) frame {
	list := make(frame, g.Rows*g.Side)
	for row := range list {
		list[row] = make([]float32, g.Columns*g.Side)
		for column := range list[row] {
			list[row][column] = f
		}
	}
	return list
}

// with returns a copy of a frame with another sample in a pixel.
func with(list frame, column, row int, f float32) frame {
	var copied frame
	for _, samples := range list {
		copied = append(copied, append([]float32{}, samples...))
	}
	copied[row][column] = f
	return copied
}

// without returns a copy of a frame whose row has some samples alone.
func without(list frame, row, columns int) frame {
	copied := append(frame{}, list...)
	copied[row] = list[row][:columns:columns]
	return copied
}

// badFrame is a frame of the geometry twin with an error.
type badFrame struct {
	frame frame
	e     api.Errno
}

func badFrames() []badFrame {
	good := filled(twin(), 1)
	nan, inf, small := noSamples()[0], noSamples()[1], noSamples()[2]
	return []badFrame{
		{nil, api.ErrShape}, {good[:1], api.ErrShape}, {append(filled(twin(), 1), good[0]), api.ErrShape}, {filled(single(2), 1), api.ErrShape},
		{without(good, 0, 3), api.ErrShape}, {without(good, 1, 0), api.ErrShape}, {frame{good[0], append([]float32{1}, good[1]...)}, api.ErrShape},
		{with(good, 0, 0, nan), api.ErrForm}, {with(good, 3, 1, inf), api.ErrForm}, {with(good, 2, 0, small), api.ErrForm},
		{without(with(good, 0, 0, nan), 1, 2), api.ErrForm}, {without(with(good, 0, 1, nan), 0, 2), api.ErrShape}, {without(with(good, 0, 0, nan), 0, 2), api.ErrShape},
		{with(good[:1], 0, 0, nan), api.ErrShape},
	}
}

// randomSample returns a sample of any kind.
func randomSample(r *rand.Rand) float32 {
	switch r.Intn(6) {
	case 0:
		return 0
	case 1:
		return float32(r.NormFloat64())
	case 2:
		for {
			f := math.Float32frombits(r.Uint32())
			if !math.IsNaN(float64(f)) && !math.IsInf(float64(f), 0) {
				return f
			}
		}
	}
	return float32(r.Intn(2001) - 400)
}

// randomCount returns a count that is at least 0, and of ordinary size.
func randomCount(r *rand.Rand) float32 {
	if r.Intn(3) == 0 {
		return float32(r.Intn(4))
	}
	return float32(r.Intn(1<<16)) / 64
}

// randomFrame returns a frame of samples.
func randomFrame(r *rand.Rand, g geometry, sample func(*rand.Rand) float32) frame {
	list := filled(g, 0)
	for _, row := range list {
		for column := range row {
			row[column] = sample(r)
		}
	}
	return list
}

// behind returns the exact values of the counts behind a lenslet, row by row.
func behind(g geometry, list frame, lenslet int) [][]*big.Rat {
	values := make([][]*big.Rat, g.Side)
	for k := range values {
		for i := range g.Side {
			f := list[lenslet/g.Columns*g.Side+k][lenslet%g.Columns*g.Side+i]
			values[k] = append(values[k], exact(f))
		}
	}
	return values
}

// fluxOf returns the sum of counts.
func fluxOf(values [][]*big.Rat) *big.Rat {
	sum := new(big.Rat)
	for _, row := range values {
		for _, x := range row {
			sum = add(sum, x)
		}
	}
	return sum
}

// centroidOf returns the centroid of counts whose sum is not 0.
func centroidOf(values [][]*big.Rat) [2]*big.Rat {
	x, y := new(big.Rat), new(big.Rat)
	for k, row := range values {
		for i, value := range row {
			x = add(x, mul(ratio(2*i+1-len(values), 2), value))
			y = add(y, mul(ratio(2*k+1-len(values), 2), value))
		}
	}
	flux := fluxOf(values)
	return [2]*big.Rat{div(x, flux), div(y, flux)}
}

func pairOf(c [2]*big.Rat) pair { return pair{fromBig(c[0]), fromBig(c[1])} }
