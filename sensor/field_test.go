package sensor_test

import (
	"math"
	"math/big"
	"math/rand"
	"testing"

	"lenslet/api"
	"lenslet/number"
	"lenslet/sensor"
)

// P3.5: the transform of fields.

// sameField reports a field that differs from the expected one, or has a -0.
func sameField(t *testing.T, what string, got, want field) {
	t.Helper()
	same(t, what, got, want)
	for _, row := range got {
		for _, z := range row {
			for _, f := range []float32{real(z), imag(z)} {
				if f == 0 && math.Signbit(float64(f)) {
					t.Errorf("%s: a part is -0", what)
				}
			}
		}
	}
}

// square returns a table with the same element everywhere.
func square[T any](side int, element T) [][]T {
	table := make([][]T, side)
	for k := range table {
		for range side {
			table[k] = append(table[k], element)
		}
	}
	return table
}

// put returns a copy of a table with another element in a row and a column.
func put[T any](table [][]T, row, column int, element T) [][]T {
	copied := make([][]T, len(table))
	for k := range table {
		copied[k] = append([]T{}, table[k]...)
	}
	copied[row][column] = element
	return copied
}

// cut returns a copy of a table whose row has some elements alone.
func cut[T any](table [][]T, row, columns int) [][]T {
	copied := append([][]T{}, table...)
	copied[row] = table[row][:columns:columns]
	return copied
}

// badSquare is a table that is no square with 2, 4 or 8 rows.
type badSquare[T any] struct {
	table [][]T
	e     api.Errno
}

func badSquares[T any](element T) []badSquare[T] {
	var list []badSquare[T]
	for _, side := range []int{0, 1, 3, 5, 6, 7, 9, 16} {
		list = append(list, badSquare[T]{square(side, element), api.ErrRange})
	}
	for _, side := range []int{2, 4, 8} {
		good := square(side, element)
		long := append([][]T{}, good...)
		long[side-1] = append(append([]T{}, good[0]...), element)
		list = append(list, badSquare[T]{cut(good, 0, side-1), api.ErrShape}, badSquare[T]{cut(good, side-1, 0), api.ErrShape}, badSquare[T]{long, api.ErrShape}, badSquare[T]{make([][]T, side), api.ErrShape})
	}
	return list
}

func TestField(t *testing.T) {
	sameField(t, "Field", sure[field](t)(sensor.Field(phases{{0, 1}, {2, 3}})), field{{1, 1i}, {-1, -1i}})
	sameField(t, "Field", sure[field](t)(sensor.Field(phases{{-1, -2}, {-3, -4}})), field{{-1i, -1}, {1i, 1}})
	sameField(t, "Field", sure[field](t)(sensor.Field(phases{{math.MaxInt, math.MinInt}, {math.MinInt + 1, 4000000002}})), field{{-1i, 1}, {1i, -1}})
	for _, side := range []int{2, 4, 8} {
		for phase, want := range []complex64{1, 1i, -1, -1i, 1, 1i} {
			sameField(t, "Field", sure[field](t)(sensor.Field(square(side, phase))), square(side, want))
		}
	}
	for _, row := range badSquares(1) {
		fails[field](t, "Field", row.e)(sensor.Field(row.table))
	}
}

// noComplexes have a part that is a NaN or an infinity.
func noComplexes() []complex64 {
	var list []complex64
	for _, f := range noSamples() {
		list = append(list, complex(f, 0), complex(0, f), complex(f, f))
	}
	return list
}

func badFields() []badSquare[complex64] {
	list := badSquares(complex64(1))
	for _, z := range noComplexes() {
		for _, side := range []int{2, 4, 8} {
			good := square(side, complex64(2i))
			list = append(list, badSquare[complex64]{put(good, side-1, side-1, z), api.ErrForm}, badSquare[complex64]{cut(put(good, 0, 1, z), 1, 0), api.ErrForm})
			list = append(list, badSquare[complex64]{cut(put(good, 1, 0, z), 0, 1), api.ErrShape}, badSquare[complex64]{cut(put(good, 0, 0, z), 0, 1), api.ErrShape})
		}
		list = append(list, badSquare[complex64]{square(3, z), api.ErrRange})
	}
	return list
}

// vast are fields whose transforms are too large.
func vast() []field {
	return []field{
		square(2, complex64(most)), square(4, complex64(complex(0, -most))), {{most, most}, {0, 0}}, {{complex(0, -most), 0}, {complex(0, -most), 0}},
		{{most, complex(0, most)}, {complex(0, most), -most}}, {{most, least}, {-most, 0}},
		square(8, complex64(1<<114)), put(square(8, complex64(0)), 3, 4, complex(1<<119, -(1<<119))), put(square(8, complex64(0)), 7, 7, -(1 << 120)), square(8, complex64(most)),
	}
}

// justSmall are fields of the greatest side whose parts are almost too large.
func justSmall() []field {
	below := float32(1<<120 - 1<<96)
	return []field{
		put(square(8, complex64(0)), 3, 4, complex(below, 0)), put(square(8, complex64(0)), 5, 1, complex(1<<119, 1<<118)),
		put(square(8, complex64(1<<114)), 0, 7, 0), put(square(8, complex64(complex(0, -(1<<114)))), 0, 7, complex(0, 1<<113)),
	}
}

func TestTransform(t *testing.T) {
	for _, row := range []struct{ field, want field }{
		{field{{1, 1i}, {-1, -1i}}, field{{0, 0}, {2 + 2i, 2 - 2i}}},
		{square(2, complex64(1)), put(square(2, complex64(0)), 0, 0, 4)},
		{square(4, complex64(-2i)), put(square(4, complex64(0)), 0, 0, -32i)},
		{put(square(2, complex64(0)), 1, 1, 3+5i), field{{3 + 5i, -3 - 5i}, {-3 - 5i, 3 + 5i}}},
		{put(square(4, complex64(0)), 0, 1, 1), field{{1, -1i, -1, 1i}, {1, -1i, -1, 1i}, {1, -1i, -1, 1i}, {1, -1i, -1, 1i}}},
		{put(square(4, complex64(0)), 1, 0, 1i), field{{1i, 1i, 1i, 1i}, {1, 1, 1, 1}, {-1i, -1i, -1i, -1i}, {-1, -1, -1, -1}}},
		{put(square(4, complex64(0)), 3, 2, 2), field{{2, -2, 2, -2}, {2i, -2i, 2i, -2i}, {-2, 2, -2, 2}, {-2i, 2i, -2i, 2i}}},
		// Sums are exact before they are rounded, and no part is -0.
		{field{{1 << 24, 1}, {-(1 << 24), 0}}, field{{1, -1}, {1 << 25, 1 << 25}}},
		{field{{1 << 126, least}, {-(1 << 126), 0}}, field{{least, -least}, {1 << 127, 1 << 127}}},
		{square(2, complex(negativeZero(), negativeZero())), square(2, complex64(0))},
	} {
		sameField(t, "Transform", sure[field](t)(sensor.Transform(row.field)), row.want)
		same(t, "CheckTransform", sensor.CheckTransform(row.field, row.want), api.OK)
	}
	sameField(t, "Transform of large fields", sure[field](t)(sensor.Transform(field{{most, complex(0, most)}, {0, 0}})), field{{complex(most, most), complex(most, -most)}, {complex(most, most), complex(most, -most)}})
}

func TestTransformErrors(t *testing.T) {
	for _, row := range badFields() {
		fails[field](t, "Transform", row.e)(sensor.Transform(row.table))
	}
	for _, u := range vast() {
		fails[field](t, "Transform", api.ErrLarge)(sensor.Transform(u))
	}
	for _, u := range justSmall() {
		v := sure[field](t)(sensor.Transform(u))
		same(t, "CheckTransform", sensor.CheckTransform(u, v), api.OK)
	}
}

// quarterTransform returns the transform of a field of side 2 or 4 from its
// definition.
func quarterTransform(u field) field {
	side := len(u)
	v := square(side, complex64(0))
	for k := range side {
		for l := range side {
			re, im := new(big.Rat), new(big.Rat)
			for a := range side {
				for b := range side {
					quarters := 4 / side * (a*k + b*l) % 4
					x, y := exact(real(u[a][b])), exact(imag(u[a][b]))
					cosine, sine := ratio([]int{1, 0, -1, 0}[quarters], 1), ratio([]int{0, -1, 0, 1}[quarters], 1)
					re = add(re, sub(mul(x, cosine), mul(y, sine)))
					im = add(im, add(mul(x, sine), mul(y, cosine)))
				}
			}
			v[k][l] = complex(nearest(re), nearest(im))
		}
	}
	return v
}

// randomField returns a field of samples that are not too large.
func randomField(r *rand.Rand, side int) field {
	u := square(side, complex64(0))
	part := func() float32 {
		f := randomSample(r)
		for math.Abs(float64(f)) >= 1<<112 {
			f = randomSample(r)
		}
		return f
	}
	for _, row := range u {
		for b := range row {
			row[b] = complex(part(), part())
		}
	}
	return u
}

func TestSmallTransformsFromTheirDefinition(t *testing.T) {
	r := rand.New(rand.NewSource(9))
	for i := range 200 {
		u := randomField(r, 2+i%2*2)
		want := quarterTransform(u)
		sameField(t, "Transform", sure[field](t)(sensor.Transform(u)), want)
		same(t, "CheckTransform", sensor.CheckTransform(u, want), api.OK)
		k, l := r.Intn(len(u)), r.Intn(len(u))
		z := want[k][l]
		for _, other := range []complex64{
			complex(math.Nextafter32(real(z), most), imag(z)), complex(math.Nextafter32(real(z), -most), imag(z)),
			complex(real(z), math.Nextafter32(imag(z), most)), complex(real(z), math.Nextafter32(imag(z), -most)),
		} {
			same(t, "CheckTransform of another field", sensor.CheckTransform(u, put(want, k, l, other)), api.ErrProof)
		}
	}
}

// boxTransform returns the boxes of the values of a transform, computed by
// the operations of package number, as the document defines them.
func boxTransform(t *testing.T, u field) [][]api.Box {
	t.Helper()
	side := len(u)
	factors := make([]api.Box, side)
	for i := range factors {
		turn := sure[api.Box](t)(number.Turn(fromBig(ratio(i, side)), 9))
		factors[i] = sure[api.Box](t)(number.Conjugate(turn))
	}
	boxes := make([][]api.Box, side)
	for k := range side {
		for l := range side {
			sum := api.Box{Re: span("0", "0"), Im: span("0", "0")}
			for a := range side {
				for b := range side {
					x, y := fromBig(exact(real(u[a][b]))), fromBig(exact(imag(u[a][b])))
					product := sure[api.Box](t)(number.MulBox(api.Box{Re: span(x, x), Im: span(y, y)}, factors[(a*k+b*l)%side]))
					sum = sure[api.Box](t)(number.AddBox(sum, product))
				}
			}
			boxes[k] = append(boxes[k], sum)
		}
	}
	return boxes
}

// toleranceOf returns the tolerance of a field from its definition.
func toleranceOf(u field) *big.Rat {
	sum := new(big.Rat)
	for _, row := range u {
		for _, z := range row {
			sum = add(sum, new(big.Rat).Abs(exact(real(z))))
			sum = add(sum, new(big.Rat).Abs(exact(imag(z))))
		}
	}
	return add(mul(sum, ratio(1, 1<<20)), exact(least))
}

// isNear reports whether a sample differs from each number of a span by at
// most a tolerance.
func isNear(t *testing.T, f float32, s api.Span, tolerance *big.Rat) bool {
	t.Helper()
	for _, end := range []api.Rat{s.Low, s.High} {
		distance := sub(exact(f), asBig(t, end))
		if distance.Abs(distance).Cmp(tolerance) > 0 {
			return false
		}
	}
	return true
}

func TestLargeTransformsAreAccepted(t *testing.T) {
	r := rand.New(rand.NewSource(10))
	fields := append(justSmall(), square(8, complex64(least)), put(square(8, complex64(0)), 3, 5, least-1i*least), square(8, complex64(3-5i)))
	for range 6 {
		fields = append(fields, randomField(r, 8))
	}
	for i, u := range fields {
		v := sure[field](t)(sensor.Transform(u))
		boxes, tolerance := boxTransform(t, u), toleranceOf(u)
		for k, row := range v {
			for l, z := range row {
				if !isNear(t, real(z), boxes[k][l].Re, tolerance) || !isNear(t, imag(z), boxes[k][l].Im, tolerance) {
					t.Errorf("Transform of field %d is not accepted at %d, %d: %v", i, k, l, z)
				}
			}
		}
		same(t, "CheckTransform", sensor.CheckTransform(u, v), api.OK)
	}
}

// bound is a part of a value of a transform: its span, and the transform in
// which another sample stands for it.
type bound struct {
	span api.Span
	with func(f float32) field
}

// checkEnds compares the acceptance of the floats around the ends of the
// tolerance of a value with its definition.
func checkEnds(t *testing.T, u field, places [][2]int) {
	t.Helper()
	v := sure[field](t)(sensor.Transform(u))
	boxes, tolerance := boxTransform(t, u), toleranceOf(u)
	for _, at := range places {
		k, l := at[0], at[1]
		z, box := v[k][l], boxes[k][l]
		for _, part := range []bound{
			{box.Re, func(f float32) field { return put(v, k, l, complex(f, imag(z))) }},
			{box.Im, func(f float32) field { return put(v, k, l, complex(real(z), f)) }},
		} {
			low, high := asBig(t, part.span.Low), asBig(t, part.span.High)
			for _, end := range []*big.Rat{add(low, tolerance), sub(high, tolerance), add(high, tolerance), sub(low, tolerance)} {
				middle := nearest(end)
				for _, f := range []float32{math.Nextafter32(middle, -most), middle, math.Nextafter32(middle, most)} {
					want := api.ErrProof
					if isNear(t, f, part.span, tolerance) {
						want = api.OK
					}
					same(t, "CheckTransform near the end", sensor.CheckTransform(u, part.with(f)), want)
				}
			}
		}
	}
}

func TestAcceptedTransforms(t *testing.T) {
	r := rand.New(rand.NewSource(11))
	for range 2 {
		checkEnds(t, randomField(r, 8), [][2]int{{0, 0}, {1, 1}, {3, 6}, {7, 2}})
	}
}

// TestAcceptedSmallValues has values near 0, where floats are dense: there the
// widths of the spans decide, which do not cancel each other.
func TestAcceptedSmallValues(t *testing.T) {
	dark := square(8, complex64(0))
	for _, u := range []field{
		put(put(dark, 0, 1, 1), 0, 3, 1), put(put(dark, 0, 1, -1), 0, 3, -1), put(put(dark, 0, 1, 1), 1, 0, -1), put(put(dark, 0, 1, 3i), 1, 0, -3i),
		put(put(dark, 1, 0, 2-2i), 7, 0, -2-2i),
	} {
		checkEnds(t, u, [][2]int{{0, 1}, {1, 1}})
	}
}

func TestTolerance(t *testing.T) {
	// The tolerance of 0 is the least float, that of a sum of 2^20 a little
	// more than 1.
	dark := square(8, complex64(0))
	for _, row := range []struct {
		u, v field
		e    api.Errno
	}{
		{dark, dark, api.OK}, {dark, square(8, complex(negativeZero(), negativeZero())), api.OK},
		{dark, put(dark, 7, 7, least), api.OK}, {dark, put(dark, 0, 1, -1i*least), api.OK}, {dark, square(8, complex64(least-1i*least)), api.OK},
		{dark, put(dark, 7, 7, 2*least), api.ErrProof}, {dark, put(dark, 0, 1, -2i*least), api.ErrProof},
		{put(dark, 0, 0, 1<<20), square(8, complex64(1<<20)), api.OK}, {put(dark, 0, 0, 1<<20), square(8, complex64(1<<20+1-1i)), api.OK}, {put(dark, 0, 0, 1<<20), put(square(8, complex64(1<<20)), 4, 4, 1<<20-1), api.OK},
		{put(dark, 0, 0, 1<<20), put(square(8, complex64(1<<20)), 4, 4, 1<<20+1.125), api.ErrProof}, {put(dark, 0, 0, 1<<20), put(square(8, complex64(1<<20)), 4, 4, 1<<20+1.0000002i), api.ErrProof},
		{put(dark, 0, 0, -(1<<19)-(1<<19)*1i), square(8, complex64(-(1<<19)+1-(1<<19)*1i-1i)), api.OK},
	} {
		same(t, "CheckTransform", sensor.CheckTransform(row.u, row.v), row.e)
	}
}

func TestCheckTransformErrors(t *testing.T) {
	for _, row := range badFields() {
		same(t, "CheckTransform", sensor.CheckTransform(row.table, nil), row.e)
		same(t, "CheckTransform", sensor.CheckTransform(row.table, row.table), row.e)
	}
	for _, side := range []int{2, 4, 8} {
		u, good := square(side, complex64(0)), square(side, complex64(0))
		same(t, "CheckTransform", sensor.CheckTransform(u, good), api.OK)
		for _, v := range []field{nil, good[:side-1], square(side+1, complex64(0)), cut(good, 0, 1), cut(good, side-1, 0), square(2*side, complex64(0)), square(side/2, complex64(0))} {
			same(t, "CheckTransform", sensor.CheckTransform(u, v), api.ErrShape)
		}
		for _, z := range noComplexes() {
			same(t, "CheckTransform", sensor.CheckTransform(u, put(good, side-1, 0, z)), api.ErrForm)
			same(t, "CheckTransform", sensor.CheckTransform(u, cut(put(good, 0, 0, z), 1, 1)), api.ErrForm)
			same(t, "CheckTransform", sensor.CheckTransform(u, cut(put(good, 1, 0, z), 0, 1)), api.ErrShape)
		}
		same(t, "CheckTransform", sensor.CheckTransform(u, put(good, 1, 1, 1)), api.ErrProof)
		same(t, "CheckTransform", sensor.CheckTransform(u, square(side, complex(negativeZero(), negativeZero()))), api.OK)
	}
	for _, u := range vast() {
		side := len(u)
		same(t, "CheckTransform", sensor.CheckTransform(u, square(side, complex64(0))), api.ErrLarge)
		same(t, "CheckTransform", sensor.CheckTransform(u, square(side, complex64(most))), api.ErrLarge)
		same(t, "CheckTransform", sensor.CheckTransform(u, square(side-1, complex64(0))), api.ErrShape)
		same(t, "CheckTransform", sensor.CheckTransform(u, put(square(side, complex64(0)), 1, 0, noComplexes()[0])), api.ErrForm)
	}
	same(t, "CheckTransform", sensor.CheckTransform(field{{1, 1i}, {-1, -1i}}, field{{0, 0}, {2 + 2i, 2 - 2i}}), api.OK)
	same(t, "CheckTransform", sensor.CheckTransform(field{{1, 1i}, {-1, -1i}}, field{{0, 0}, {2 + 2i, 2 + 2i}}), api.ErrProof)
}
