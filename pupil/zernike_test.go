package pupil_test

import (
	"math"
	"math/big"
	"math/rand"
	"testing"

	"lenslet/api"
	"lenslet/pupil"
)

// P2.3: Zernike modes.

func TestZernike(t *testing.T) {
	for _, row := range []struct {
		n, m int
		want Poly
	}{
		{0, 0, poly("1", 0, 0)}, {1, 1, poly("1", 1, 0)}, {1, -1, poly("1", 0, 1)},
		{2, 0, Poly{{"-1", 0, 0}, {"2", 2, 0}, {"2", 0, 2}}},
		{2, 2, Poly{{"1", 2, 0}, {"-1", 0, 2}}}, {2, -2, poly("2", 1, 1)},
		{3, 1, Poly{{"-2", 1, 0}, {"3", 3, 0}, {"3", 1, 2}}}, {3, -1, Poly{{"-2", 0, 1}, {"3", 2, 1}, {"3", 0, 3}}},
		{3, 3, Poly{{"1", 3, 0}, {"-3", 1, 2}}}, {3, -3, Poly{{"3", 2, 1}, {"-1", 0, 3}}},
		{4, 0, Poly{{"1", 0, 0}, {"-6", 2, 0}, {"-6", 0, 2}, {"6", 4, 0}, {"12", 2, 2}, {"6", 0, 4}}},
		{4, 2, Poly{{"-3", 2, 0}, {"3", 0, 2}, {"4", 4, 0}, {"-4", 0, 4}}},
		{4, -4, Poly{{"4", 3, 1}, {"-4", 1, 3}}},
	} {
		same(t, "Zernike", sure[Poly](t)(pupil.Zernike(row.n, row.m)), row.want)
	}
	for _, row := range []struct {
		n, m int
		e    api.Errno
	}{
		{-1, 0, api.ErrRange}, {9, 1, api.ErrRange}, {9, 0, api.ErrRange}, {-2, -2, api.ErrRange}, {math.MinInt, 0, api.ErrRange}, {math.MaxInt, 1, api.ErrRange}, {math.MinInt, math.MinInt, api.ErrRange},
		{2, 3, api.ErrRange}, {2, -3, api.ErrRange}, {2, 4, api.ErrRange}, {8, math.MinInt, api.ErrRange}, {8, math.MaxInt, api.ErrRange}, {0, 1, api.ErrRange},
		{2, 1, api.ErrRule}, {2, -1, api.ErrRule}, {1, 0, api.ErrRule}, {8, 7, api.ErrRule}, {7, -6, api.ErrRule},
	} {
		fails[Poly](t, "Zernike", row.e)(pupil.Zernike(row.n, row.m))
	}
}

func factorial(n int) *big.Int { return new(big.Int).MulRange(1, int64(n)) }

// zernikeAt returns the value of a Zernike polynomial from its definition.
func zernikeAt(n, m int, x, y *big.Rat) *big.Rat {
	k := max(m, -m)
	distance := add(mul(x, x), mul(y, y))
	radial := new(big.Rat)
	for s := 0; s <= (n-k)/2; s++ {
		below := new(big.Int).Mul(factorial(s), new(big.Int).Mul(factorial((n+k)/2-s), factorial((n-k)/2-s)))
		c := new(big.Rat).SetFrac(factorial(n-s), below)
		if s%2 == 1 {
			c.Neg(c)
		}
		radial = add(radial, mul(c, power(distance, (n-k)/2-s)))
	}
	re, im := big.NewRat(1, 1), new(big.Rat)
	for range k {
		re, im = sub(mul(re, x), mul(im, y)), add(mul(re, y), mul(im, x))
	}
	if m < 0 {
		return mul(radial, im)
	}
	return mul(radial, re)
}

func TestAllZernikePolynomials(t *testing.T) {
	r := rand.New(rand.NewSource(4))
	for n := range pupil.MaxZernike + 1 {
		for m := -n; m <= n; m += 2 {
			f := sure[Poly](t)(pupil.Zernike(n, m))
			same(t, "CheckPoly", pupil.CheckPoly(f), api.OK)
			for range 12 {
				x, y := asBig(t, randomRat(r)), asBig(t, randomRat(r))
				same(t, "value of a Zernike polynomial", fromBig(valueAt(t, f, x, y)), fromBig(zernikeAt(n, m, x, y)))
			}
		}
	}
}

func TestDiscProduct(t *testing.T) {
	one, x, y := poly("1", 0, 0), poly("1", 1, 0), poly("1", 0, 1)
	defocus := sure[Poly](t)(pupil.Zernike(2, 0))
	huge := Poly{{tenTo(599), 2, 0}, {"-" + tenTo(599), 0, 2}}
	for _, row := range []struct {
		f, g Poly
		want api.Rat
	}{
		{defocus, defocus, "1/3"}, {defocus, one, "0"}, {x, x, "1/4"}, {y, y, "1/4"}, {x, y, "0"}, {one, one, "1"}, {one, x, "0"},
		{one, poly("1", 2, 0), "1/4"}, {poly("1", 4, 0), one, "1/8"}, {poly("1", 1, 1), poly("1", 1, 1), "1/24"}, {poly("1", 2, 1), y, "1/24"},
		{Poly{{"1", 0, 0}, {"2", 1, 0}}, Poly{{"3", 0, 0}, {"5", 1, 0}}, "11/2"},
		{nil, x, "0"}, {x, nil, "0"}, {nil, nil, "0"},
		{huge, Poly{{nines(600), 2, 0}, {nines(600), 0, 2}}, "0"},
		{poly(tenTo(599), 1, 0), poly("1/"+tenTo(599), 1, 0), "1/4"},
	} {
		same(t, "DiscProduct", sure[api.Rat](t)(pupil.DiscProduct(row.f, row.g)), row.want)
	}
	fails[api.Rat](t, "DiscProduct", api.ErrLarge)(pupil.DiscProduct(poly(tenTo(599), 0, 0), poly("10", 0, 0)))
	fails[api.Rat](t, "DiscProduct", api.ErrLarge)(pupil.DiscProduct(huge, huge))
	fails[api.Rat](t, "DiscProduct", api.ErrLarge)(pupil.DiscProduct(poly("1/"+nines(600), 1, 0), x))
}

// meanOnDisc returns the integral of X^a Y^b over the disc, divided by pi: the
// integral of the power of the radius times the mean on the circle.
func meanOnDisc(a, b int) *big.Rat {
	if a%2 == 1 || b%2 == 1 {
		return new(big.Rat)
	}
	above := new(big.Int).Mul(factorial(a), factorial(b))
	below := new(big.Int).Mul(factorial(a/2), factorial(b/2))
	below.Mul(below, factorial((a+b)/2)).Lsh(below, uint(a+b))
	return mul(new(big.Rat).SetFrac(above, below), big.NewRat(2, int64(a+b+2)))
}

func TestDiscProductOfPowers(t *testing.T) {
	for i := range 17 {
		for j := range 17 - i {
			for k := range 17 {
				l := 16 - k
				got := sure[api.Rat](t)(pupil.DiscProduct(poly("1", i, j), poly("1", k, l)))
				same(t, "DiscProduct of powers", got, fromBig(meanOnDisc(i+k, j+l)))
			}
		}
	}
}

func TestDiscProductOfPolynomials(t *testing.T) {
	r := rand.New(rand.NewSource(5))
	for range 40 {
		f, g := randomPoly(r, 16), randomPoly(r, r.Intn(6))
		want := new(big.Rat)
		for _, a := range f {
			for _, b := range g {
				want = add(want, mul(mul(asBig(t, a.C), asBig(t, b.C)), meanOnDisc(a.I+b.I, a.J+b.J)))
			}
		}
		same(t, "DiscProduct", sure[api.Rat](t)(pupil.DiscProduct(f, g)), fromBig(want))
	}
}
