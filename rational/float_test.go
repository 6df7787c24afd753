package rational

import (
	"math"
	"math/big"
	"math/rand"
	"testing"

	"lenslet/api"
)

// someFloats returns the ends of the float32 numbers, and many others.
func someFloats() []float32 {
	list := []float32{0, float32(math.Copysign(0, -1)), 1, -1, 0.75, 1 << 24, math.MaxFloat32, -math.MaxFloat32, math.SmallestNonzeroFloat32, -math.SmallestNonzeroFloat32, 0x1p-126, 0x1p-126 - 0x1p-149}
	r := rand.New(rand.NewSource(9))
	for len(list) < 5000 {
		f := math.Float32frombits(r.Uint32())
		if !math.IsNaN(float64(f)) && !math.IsInf(float64(f), 0) {
			list = append(list, f)
		}
	}
	return list
}

func TestSteps(t *testing.T) {
	sameRatio(t, "LeastFloat", LeastFloat(), new(big.Rat).SetFloat64(math.SmallestNonzeroFloat32))
	for _, f := range someFloats() {
		sameRatio(t, "Steps", Integer(Steps(f)).Mul(LeastFloat()), new(big.Rat).SetFloat64(float64(f)))
	}
}

func TestFloatOfItsSteps(t *testing.T) {
	for _, f := range someFloats() {
		got, e := Integer(Steps(f)).Mul(LeastFloat()).Float()
		if got != f || e != api.OK || got == 0 && math.Signbit(float64(got)) {
			t.Errorf("Float of %v: got %v, error %d", f, got, e)
		}
	}
}

// TestFloatOfLongNumbers has numbers with more digits than package api allows.
func TestFloatOfLongNumbers(t *testing.T) {
	tiny := Fraction(Whole(1), Power(10, 2*api.MaxDigits))
	one := Integer(Whole(1))
	middle := one.Add(Fraction(Whole(1), Power(2, 24)))
	limit := Integer(Power(2, 128).Sub(Power(2, 103)))
	for _, row := range []struct {
		a    Ratio
		want float32
		e    api.Errno
	}{
		{tiny, 0, api.OK}, {tiny.Neg(), 0, api.OK}, {one.Add(tiny), 1, api.OK},
		{middle, 1, api.OK}, {middle.Sub(tiny), 1, api.OK}, {middle.Add(tiny), 1 + 0x1p-23, api.OK}, {middle.Add(tiny).Neg(), -1 - 0x1p-23, api.OK},
		{limit.Sub(tiny), math.MaxFloat32, api.OK}, {limit, 0, api.ErrLarge}, {limit.Neg(), 0, api.ErrLarge}, {limit.Neg().Add(tiny), -math.MaxFloat32, api.OK},
		{Integer(Power(10, 2*api.MaxDigits)), 0, api.ErrLarge},
	} {
		got, e := row.a.Float()
		if got != row.want || e != row.e || math.Signbit(float64(got)) && got == 0 {
			t.Errorf("Float: got %v, error %d, want %v, error %d", got, e, row.want, row.e)
		}
	}
}

func TestMean(t *testing.T) {
	sameRatio(t, "Mean of no numbers", Mean(nil), new(big.Rat))
	r := rand.New(rand.NewSource(10))
	for count := 1; count < 50; count++ {
		var list []Ratio
		sum := new(big.Rat)
		for range count {
			a, x := randomRatio(r)
			list = append(list, a)
			sum.Add(sum, x)
		}
		sameRatio(t, "Mean", Mean(list), sum.Mul(sum, big.NewRat(1, int64(count))))
	}
}

// someLongFloats returns the ends of the float64 numbers, and many others.
func someLongFloats() []float64 {
	list := []float64{0, math.Copysign(0, -1), 1, -1, 0.75, 1 << 53, math.MaxFloat64, -math.MaxFloat64, math.SmallestNonzeroFloat64, -math.SmallestNonzeroFloat64, 0x1p-1022, 0x1p-1022 - 0x1p-1074}
	r := rand.New(rand.NewSource(11))
	for len(list) < 2000 {
		f := math.Float64frombits(r.Uint64())
		if !math.IsNaN(f) && !math.IsInf(f, 0) {
			list = append(list, f)
		}
	}
	return list
}

func TestExact(t *testing.T) {
	for _, f := range someLongFloats() {
		exact := Exact(f)
		sameRatio(t, "Exact", exact, new(big.Rat).SetFloat64(f))
		got, e := exact.Float64()
		if got != f || e != api.OK || got == 0 && math.Signbit(got) {
			t.Errorf("Float64 of %v: got %v, error %d", f, got, e)
		}
	}
}

func TestFloat64(t *testing.T) {
	r := rand.New(rand.NewSource(12))
	for range 5000 {
		a, x := randomRatio(r)
		want, _ := x.Float64()
		if got, e := a.Float64(); got != want || e != api.OK {
			t.Errorf("Float64 of %v: got %v, error %d, want %v", x, got, e, want)
		}
	}
	limit := Integer(Power(2, 1024).Sub(Power(2, 970)))
	for _, row := range []struct {
		a    Ratio
		want float64
		e    api.Errno
	}{
		{limit, 0, api.ErrLarge}, {limit.Neg(), 0, api.ErrLarge}, {limit.Sub(Integer(Whole(1))), math.MaxFloat64, api.OK},
		{power(-1075), 0, api.OK}, {power(-1075).Neg(), 0, api.OK}, {power(-1075).Mul(Integer(Whole(3))), 0x1p-1073, api.OK}, {power(-1074).Neg(), -0x1p-1074, api.OK},
	} {
		got, e := row.a.Float64()
		if got != row.want || e != row.e || math.Signbit(got) && got == 0 {
			t.Errorf("Float64: got %v, error %d, want %v, error %d", got, e, row.want, row.e)
		}
	}
}
