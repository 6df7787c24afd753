package pupil_test

import (
	"math/big"
	"math/rand"
	"testing"

	"lenslet/api"
	"lenslet/pupil"
)

// P2.6: consequences.

// mode has a Zernike polynomial and its n and m.
type mode struct {
	n int
	m int
	f Poly
}

func allModes(t *testing.T) []mode {
	t.Helper()
	var list []mode
	for n := range pupil.MaxZernike + 1 {
		for m := -n; m <= n; m += 2 {
			list = append(list, mode{n, m, sure[Poly](t)(pupil.Zernike(n, m))})
		}
	}
	return list
}

func TestZernikePolynomialsAreOrthogonal(t *testing.T) {
	list := allModes(t)
	for _, a := range list {
		for _, b := range list {
			want := new(big.Rat)
			if a.n == b.n && a.m == b.m {
				want.SetFrac64(1, int64(a.n+1))
				if a.m != 0 {
					want = mul(want, big.NewRat(1, 2))
				}
			}
			same(t, "DiscProduct of Zernike polynomials", sure[api.Rat](t)(pupil.DiscProduct(a.f, b.f)), fromBig(want))
		}
	}
}

// someBases returns bases of several pupils.
func someBases(t *testing.T) []basis {
	t.Helper()
	middle := pupil.Pupil{Size: 7, Outer: "11/10", Inner: "0", Vanes: []pupil.Vane{{A: 0, B: 1, H: 1, Half: "1/3"}}}
	list := []basis{
		sure[basis](t)(pupil.Basis(small(), modes(t, 4))),
		sure[basis](t)(pupil.Basis(middle, modes(t, 10))),
		sure[basis](t)(pupil.Basis(large(), modes(t, 16))),
	}
	r := rand.New(rand.NewSource(9))
	for range 10 {
		var polys []Poly
		for range 4 {
			polys = append(polys, randomPoly(r, 4))
		}
		if b, e := pupil.Basis(middle, polys); e == api.OK {
			list = append(list, b)
		}
	}
	return list
}

func TestVectorsOfABasisAreOrthogonal(t *testing.T) {
	for _, b := range someBases(t) {
		for k, v := range b {
			if dot(t, v, v).Sign() <= 0 {
				t.Errorf("the vector %d is 0", k)
			}
			for _, w := range b[:k] {
				if dot(t, v, w).Sign() != 0 {
					t.Errorf("the vector %d is not orthogonal to one before it", k)
				}
			}
		}
	}
}

// TestBasisSpansItsModes checks what makes a basis unique: the values of a
// mode less its vector are composed of the vectors before it.
func TestBasisSpansItsModes(t *testing.T) {
	list := modes(t, 16)
	b := sure[basis](t)(pupil.Basis(large(), list))
	same(t, "number of vectors", len(b), len(list))
	same(t, "first vector", b[0], sure[vector](t)(pupil.Sampled(large(), list[0])))
	for k := 1; k < len(b); k++ {
		values := sure[vector](t)(pupil.Sampled(large(), list[k]))
		difference := make(vector, len(values))
		for i := range values {
			difference[i] = fromBig(sub(asBig(t, values[i]), asBig(t, b[k][i])))
		}
		got := sure[expansion](t)(expand(b[:k], difference))
		same(t, "residual of a mode less its vector", got.residual, zeros(len(values)))
	}
}

func TestResidualIsOrthogonalAndLeast(t *testing.T) {
	r := rand.New(rand.NewSource(10))
	for _, b := range someBases(t)[:2] {
		phase := randomVector(r, len(b[0]))
		got := sure[expansion](t)(expand(b, phase))
		for _, v := range b {
			if dot(t, got.residual, v).Sign() != 0 {
				t.Errorf("a residual is not orthogonal to a vector")
			}
		}
		least := dot(t, got.residual, got.residual)
		for range 5 {
			other := difference(t, phase, sure[vector](t)(pupil.Compose(b, randomVector(r, len(b)))))
			if dot(t, other, other).Cmp(least) < 0 {
				t.Errorf("other coefficients leave a lesser residual")
			}
		}
		composed := sure[vector](t)(pupil.Compose(b, got.coefficients))
		same(t, "residual", difference(t, phase, composed), got.residual)
	}
}

// difference returns v less w.
func difference(t *testing.T, v, w vector) vector {
	t.Helper()
	list := make(vector, len(v))
	for i := range v {
		list[i] = fromBig(sub(asBig(t, v[i]), asBig(t, w[i])))
	}
	return list
}

func TestComposedPhaseHasItsCoefficients(t *testing.T) {
	r := rand.New(rand.NewSource(11))
	for _, b := range someBases(t) {
		coefficients := randomVector(r, len(b))
		phase := sure[vector](t)(pupil.Compose(b, coefficients))
		got := sure[expansion](t)(expand(b, phase))
		same(t, "Expand of a composed phase", got, expansion{coefficients, zeros(len(phase))})
	}
}

func TestTiltHasItsSlopesEverywhere(t *testing.T) {
	p := large()
	tilt := Poly{{"4", 0, 0}, {"-2/7", 1, 0}, {"13", 0, 1}}
	for side := 1; side <= p.Size; side++ {
		for column := range p.Size - side + 1 {
			for row := range p.Size - side + 1 {
				got, e := pupil.Slopes(p, tilt, [2]int{column, row}, side)
				if e != api.ErrNone {
					same(t, "Slopes of a tilt", sure[slopes](t)(got, e), slopes{"-2/7", "13"})
				}
			}
		}
	}
}

func TestPupilWithoutVanesTurned(t *testing.T) {
	r := rand.New(rand.NewSource(12))
	for range 50 {
		p := randomPupil(r)
		p.Vanes = nil
		m := sure[mask](t)(pupil.Mask(p))
		for row := range p.Size {
			for column := range p.Size {
				same(t, "a cell after a quarter turn", m[p.Size-1-column][row], m[row][column])
			}
		}
	}
}
