package number

import (
	"math"
	"math/big"
	"math/rand"
	"testing"

	"lenslet/api"
)

// P1.4: floats.

func TestExact(t *testing.T) {
	for _, row := range []struct {
		f    float32
		want api.Rat
	}{
		{0, "0"}, {float32(math.Copysign(0, -1)), "0"}, {0.75, "3/4"}, {-2.5, "-5/2"}, {1, "1"}, {16777216, "16777216"},
		{1.0 / 3, "11184811/33554432"},
		{math.MaxFloat32, "340282346638528859811704183484516925440"},
		{-math.MaxFloat32, "-340282346638528859811704183484516925440"},
		{math.SmallestNonzeroFloat32, "1/713623846352979940529142984724747568191373312"},
		{-math.SmallestNonzeroFloat32, "-1/713623846352979940529142984724747568191373312"},
	} {
		same(t, "Exact", sure[api.Rat](t)(Exact(row.f)), row.want)
	}
	for _, f := range noSamples() {
		fails[api.Rat](t, "Exact", api.ErrForm)(Exact(f))
	}
}

func noSamples() []float32 {
	return []float32{float32(math.NaN()), float32(math.Inf(1)), float32(math.Inf(-1))}
}

func TestExactOfManyFloats(t *testing.T) {
	r := rand.New(rand.NewSource(8))
	for range 5000 {
		f := math.Float32frombits(r.Uint32())
		if checkSample(f) != api.OK {
			continue
		}
		exact := sure[api.Rat](t)(Exact(f))
		same(t, "Exact", exact, fromBig(new(big.Rat).SetFloat64(float64(f))))
		// P1.7: a float is the nearest float to its own exact value.
		same(t, "Float of Exact", sure[float32](t)(Float(exact)), f)
	}
}

func TestFloat(t *testing.T) {
	const most = "340282346638528859811704183484516925440"
	const tie = "340282356779733661637539395458142568448" // the middle of the greatest float and 2^128
	for _, row := range []struct {
		a    api.Rat
		want float32
	}{
		{"0", 0}, {"1/3", 1.0 / 3}, {"-1/3", -1.0 / 3}, {"1/10", 0.1}, {"-7", -7},
		{"16777217", 16777216}, {"16777219", 16777220}, {"-16777217", -16777216}, {"33554433/2", 16777216}, {"33554435/2", 16777218},
		{"33554431/2", 16777216}, {most, math.MaxFloat32}, {"-" + most, -math.MaxFloat32},
		{"340282356779733661637539395458142568447", math.MaxFloat32},
		{"-340282356779733661637539395458142568447", -math.MaxFloat32},
	} {
		same(t, "Float "+string(row.a), sure[float32](t)(Float(row.a)), row.want)
	}
	for _, a := range []api.Rat{tie, "-" + tie, "340282366920938463463374607431768211456", "-340282366920938463463374607431768211456", nines(600), "-" + nines(600)} {
		fails[float32](t, "Float "+string(a), api.ErrLarge)(Float(a))
	}
	fails[float32](t, "Float", api.ErrForm)(Float("x"))
	fails[float32](t, "Float", api.ErrForm)(Float("2/4"))
	fails[float32](t, "Float", api.ErrLarge)(Float(tenTo(600)))
}

func TestFloatOfSmallNumbers(t *testing.T) {
	least := new(big.Rat).SetFloat64(math.SmallestNonzeroFloat32)
	for _, row := range []struct {
		num, den int64
		want     float32
	}{
		{1, 2, 0}, {1, 3, 0}, {2, 3, math.SmallestNonzeroFloat32}, {1, 1, math.SmallestNonzeroFloat32},
		{3, 2, 2 * math.SmallestNonzeroFloat32}, {5, 2, 2 * math.SmallestNonzeroFloat32},
		{1<<24 - 1, 2, (1 << 23) * math.SmallestNonzeroFloat32}, {1<<24 - 3, 2, (1<<23 - 2) * math.SmallestNonzeroFloat32},
	} {
		x := new(big.Rat).Mul(least, big.NewRat(row.num, row.den))
		same(t, "Float", sure[float32](t)(Float(fromBig(x))), row.want)
		f := sure[float32](t)(Float(fromBig(x.Neg(x))))
		same(t, "Float below 0", f, -row.want)
		if f == 0 && math.Signbit(float64(f)) {
			t.Errorf("Float of %v is -0", x)
		}
	}
	for _, a := range []api.Rat{"1/" + nines(600), "-1/" + nines(600), "0"} {
		if f := sure[float32](t)(Float(a)); f != 0 || math.Signbit(float64(f)) {
			t.Errorf("Float of %s is %v", a, f)
		}
	}
}

func TestFloatOfManyNumbers(t *testing.T) {
	r := rand.New(rand.NewSource(9))
	for range 5000 {
		// Near a float, or in the middle of two.
		f := math.Float32frombits(r.Uint32())
		if checkSample(f) != api.OK {
			continue
		}
		x := new(big.Rat).SetFloat64(float64(f))
		other := float64(math.Nextafter32(f, 0))
		x.Add(x, new(big.Rat).SetFloat64(other)).Quo(x, big.NewRat(2, 1))
		x.Mul(x, big.NewRat(r.Int63n(3)-1+1e15, 1e15))
		want, _ := x.Float32()
		same(t, "Float", sure[float32](t)(Float(fromBig(x))), want)
	}
}

func TestCheckSamples(t *testing.T) {
	same(t, "CheckSamples", CheckSamples(nil), api.OK)
	same(t, "CheckSamples", CheckSamples([]float32{1, -2.5, math.MaxFloat32, float32(math.Copysign(0, -1))}), api.OK)
	same(t, "CheckSamples", CheckSamples(make([]float32, 1024)), api.OK)
	same(t, "CheckSamples", CheckSamples(make([]float32, 1025)), api.ErrMany)
	for _, f := range noSamples() {
		same(t, "CheckSamples", CheckSamples([]float32{1, f}), api.ErrForm)
		same(t, "CheckSamples of many", CheckSamples(append(make([]float32, 1024), f)), api.ErrMany)
	}
}

// P1.7: the consequences for floats.

func TestRoundingPreservesOrder(t *testing.T) {
	r := rand.New(rand.NewSource(10))
	for range 3000 {
		x := big.NewRat(r.Int63n(2000001)-1000000, r.Int63n(1000)+1)
		y := new(big.Rat).Add(x, big.NewRat(1, r.Int63n(1<<40)+1))
		if f, g := sure[float32](t)(Float(fromBig(x))), sure[float32](t)(Float(fromBig(y))); f > g {
			t.Errorf("%v and %v are rounded to %v and %v", x, y, f, g)
		}
	}
}
