package pupil_test

import (
	"math"
	"slices"
	"testing"

	"lenslet/api"
	"lenslet/pupil"
)

// P1: every function terminates and does not panic, for all arguments. The
// rules on memory: arguments are not changed, and results share no memory.

func oddPupils() []pupil.Pupil {
	list := []pupil.Pupil{small(), large(), empty(), {}, {Size: 2}, {Size: 16, Outer: "1", Inner: "0", Vanes: make([]pupil.Vane, 3)}}
	for _, row := range badPupils() {
		list = append(list, row.p)
	}
	return list
}

func oddPolys() []Poly {
	list := []Poly{nil, {}, {{}}, full(16), make(Poly, 300)}
	for _, row := range badPolys() {
		list = append(list, row.f)
	}
	return list
}

func TestOddPupils(t *testing.T) {
	odd := []int{math.MinInt, -1, 0, 1, 3, 15, 16, math.MaxInt}
	for _, p := range oddPupils() {
		pupil.CheckPupil(p)
		pupil.Mask(p)
		pupil.Cells(p)
		pupil.Places(p)
		for _, f := range []Poly{nil, {{}}, poly("1", 2, 1)} {
			pupil.Sampled(p, f)
			pupil.Basis(p, []Poly{f, f})
			for _, n := range odd {
				pupil.Slopes(p, f, [2]int{n, 0}, 1)
				pupil.Slopes(p, f, [2]int{0, n}, n)
				pupil.Slopes(p, f, [2]int{1, 1}, n)
			}
		}
	}
}

func TestOddPolys(t *testing.T) {
	for _, f := range oddPolys() {
		pupil.CheckPoly(f)
		pupil.Turned(f)
		pupil.Derive(f, "x")
		pupil.Derive(f, "\xff")
		pupil.Value(f, api.Place{})
		pupil.Value(f, api.Place{X: "1/3", Y: "-7"})
		pupil.Sampled(small(), f)
		pupil.Basis(small(), []Poly{f})
		for _, g := range oddPolys() {
			pupil.AddPoly(f, g)
			pupil.MulPoly(f, g)
			pupil.DiscProduct(f, g)
		}
	}
}

func TestOddIntegers(t *testing.T) {
	odd := []int{math.MinInt, math.MinInt + 1, -9, -8, -1, 0, 1, 8, 9, math.MaxInt - 1, math.MaxInt}
	for _, n := range odd {
		for _, m := range odd {
			pupil.Zernike(n, m)
		}
	}
}

func TestOddVectors(t *testing.T) {
	vectors := []vector{nil, {}, {"1"}, {"0"}, {""}, {"1", "2"}, make(vector, 256), make(vector, 257), zeros(256)}
	bases := []basis{nil, {nil}, {nil, {"1"}}, {{"1"}, nil}, make(basis, 16), make(basis, 17), {{"1", "1"}, {"1", "-1"}}, {zeros(256)}}
	for _, v := range vectors {
		pupil.Flattened(v)
		pupil.Variance(v)
		for _, b := range bases {
			pupil.Expand(b, v)
			pupil.Compose(b, v)
		}
	}
}

func TestArgumentsAreNotChanged(t *testing.T) {
	p, f, g := large(), Poly{{"1", 0, 0}, {"2", 1, 1}}, Poly{{"3", 0, 1}, {"-2", 1, 1}}
	pupil.Mask(p)
	pupil.Sampled(p, f)
	pupil.AddPoly(f, g)
	pupil.MulPoly(f, g)
	pupil.Turned(f)
	pupil.Derive(g, "y")
	pupil.DiscProduct(f, g)
	pupil.Slopes(p, f, [2]int{0, 0}, 16)
	pupil.Basis(p, []Poly{f, g})
	same(t, "a pupil", p, large())
	same(t, "a polynomial", f, Poly{{"1", 0, 0}, {"2", 1, 1}})
	same(t, "a polynomial", g, Poly{{"3", 0, 1}, {"-2", 1, 1}})
	b, phase := basis{{"1", "1"}, {"1", "-1"}}, vector{"5", "-2/3"}
	pupil.Expand(b, phase)
	pupil.Compose(b, phase)
	pupil.Flattened(phase)
	pupil.Variance(phase)
	same(t, "a basis", b, basis{{"1", "1"}, {"1", "-1"}})
	same(t, "a phase", phase, vector{"5", "-2/3"})
}

func TestResultsShareNoMemory(t *testing.T) {
	f := Poly{{"1", 0, 0}, {"2", 1, 1}}
	for _, result := range []Poly{
		sure[Poly](t)(pupil.AddPoly(f, nil)), sure[Poly](t)(pupil.AddPoly(nil, f)), sure[Poly](t)(pupil.MulPoly(f, poly("1", 0, 0))), sure[Poly](t)(pupil.Turned(f)),
	} {
		clear(result)
	}
	same(t, "a polynomial whose results are cleared", f, Poly{{"1", 0, 0}, {"2", 1, 1}})
	phase := vector{"1", "-1"}
	got := sure[flat](t)(flattened(phase))
	clear(got.phase)
	same(t, "a phase whose result is cleared", phase, vector{"1", "-1"})
	b := sure[basis](t)(pupil.Basis(small(), []Poly{poly("1", 0, 0), poly("1", 1, 0)}))
	first := slices.Clone(b[1])
	clear(b[0])
	same(t, "a vector of a basis", b[1], first)
	zernike := sure[Poly](t)(pupil.Zernike(2, 0))
	clear(zernike)
	same(t, "Zernike", sure[Poly](t)(pupil.Zernike(2, 0))[0], pupil.Term{C: "-1"})
}
