package loop_test

import (
	"math/big"
	"math/rand"
	"testing"

	"lenslet/api"
	"lenslet/loop"
)

// P6.1: polynomials.

func TestCheckPoly(t *testing.T) {
	for _, good := range []numbers{{"1"}, {"-1/2"}, {"0", "1"}, {"0", "0", "-5"}, filled(13, "1"), {nines(600), "-1/" + nines(600)}} {
		same(t, "CheckPoly", loop.CheckPoly(good), api.OK)
	}
	for _, bad := range badPolys() {
		same(t, "CheckPoly", loop.CheckPoly(bad.list), bad.e)
	}
}

func TestErrorsOfPolynomials(t *testing.T) {
	good := numbers{"1", "2"}
	for _, bad := range badPolys() {
		fails[numbers](t, "Multiply", bad.e)(loop.Multiply(bad.list, good))
		fails[numbers](t, "Multiply", bad.e)(loop.Multiply(good, bad.list))
		fails[numbers](t, "Multiply", bad.e)(loop.Multiply(bad.list, numbers{"1", "0"}))
		fails[api.Rat](t, "Value", bad.e)(loop.Value(bad.list, "1"))
		fails[api.Rat](t, "Value", bad.e)(loop.Value(bad.list, "1/0"))
		fails[numbers](t, "Scaled", bad.e)(loop.Scaled(bad.list, "1"))
		fails[numbers](t, "Scaled", bad.e)(loop.Scaled(bad.list, "0"))
	}
	for a, e := range badNumbers() {
		fails[api.Rat](t, "Value", e)(loop.Value(good, a))
		fails[numbers](t, "Scaled", e)(loop.Scaled(good, a))
	}
	fails[numbers](t, "Scaled by 0", api.ErrZero)(loop.Scaled(good, "0"))
	fails[numbers](t, "Scaled by 0", api.ErrZero)(loop.Scaled(numbers{"7"}, "0"))
}

func TestMultiply(t *testing.T) {
	same(t, "Multiply", sure[numbers](t)(loop.Multiply(numbers{"-1/2", "1"}, numbers{"1/3", "1"})), numbers{"-1/6", "-1/6", "1"})
	same(t, "Multiply", sure[numbers](t)(loop.Multiply(numbers{"1", "1"}, numbers{"1", "-1"})), numbers{"1", "0", "-1"})
	same(t, "Multiply by a number", sure[numbers](t)(loop.Multiply(numbers{"1/2"}, numbers{"4", "0", "-2"})), numbers{"2", "0", "-1"})
	same(t, "Multiply numbers", sure[numbers](t)(loop.Multiply(numbers{"-2"}, numbers{"1/2"})), numbers{"-1"})
	several(t, 1, 200, func(r *rand.Rand) {
		m := r.Intn(13)
		p, q := randomPoly(r, m), randomPoly(r, r.Intn(13-m))
		sameList(t, "Multiply", product(p, q))(loop.Multiply(allFromBig(p), allFromBig(q)))
	})
}

func TestDegreesOfProducts(t *testing.T) {
	for m := range 13 {
		for n := range 13 {
			p, q := filled(m+1, "1"), filled(n+1, "1")
			if m+n > api.MaxOrder {
				fails[numbers](t, "Multiply", api.ErrMany)(loop.Multiply(p, q))
				continue
			}
			same(t, "the length of a product", len(sure[numbers](t)(loop.Multiply(p, q))), m+n+1)
		}
	}
	// The degree is an error before the size of the result.
	fails[numbers](t, "Multiply", api.ErrMany)(loop.Multiply(filled(13, nines(600)), filled(2, nines(600))))
}

func TestValue(t *testing.T) {
	same(t, "Value", sure[api.Rat](t)(loop.Value(numbers{"-1/6", "-1/6", "1"}, "2")), "7/2")
	same(t, "Value of a number", sure[api.Rat](t)(loop.Value(numbers{"-3/7"}, "5")), "-3/7")
	same(t, "Value at 0", sure[api.Rat](t)(loop.Value(numbers{"4", "5"}, "0")), "4")
	same(t, "Value at a root", sure[api.Rat](t)(loop.Value(numbers{"-1", "0", "0", "8"}, "1/2")), "0")
	several(t, 2, 200, func(r *rand.Rand) {
		p, x := randomPoly(r, r.Intn(13)), randomRat(r)
		want := new(big.Rat)
		for k := len(p) - 1; k >= 0; k-- {
			want = add(mul(want, x), p[k])
		}
		sameNumber(t, "Value", want)(loop.Value(allFromBig(p), fromBig(x)))
	})
}

func TestScaled(t *testing.T) {
	same(t, "Scaled", sure[numbers](t)(loop.Scaled(numbers{"-1/6", "-1/6", "1"}, "2")), numbers{"-1/6", "-1/3", "4"})
	same(t, "Scaled by 1", sure[numbers](t)(loop.Scaled(numbers{"3", "0", "1"}, "1")), numbers{"3", "0", "1"})
	same(t, "Scaled by -1/2", sure[numbers](t)(loop.Scaled(numbers{"3", "2", "1", "8"}, "-1/2")), numbers{"3", "-1", "1/4", "-1"})
	same(t, "Scaled number", sure[numbers](t)(loop.Scaled(numbers{"3"}, tenTo(599))), numbers{"3"})
	several(t, 3, 200, func(r *rand.Rand) {
		p, by := randomPoly(r, r.Intn(13)), randomRat(r)
		if by.Sign() == 0 {
			return
		}
		want, power := values{}, one()
		for _, c := range p {
			want = append(want, mul(c, power))
			power = mul(power, by)
		}
		sameList(t, "Scaled", want)(loop.Scaled(allFromBig(p), fromBig(by)))
	})
}

func TestLargeValuesOfPolynomials(t *testing.T) {
	fails[numbers](t, "Multiply", api.ErrLarge)(loop.Multiply(numbers{"1", nines(600)}, numbers{"1", "1/2", "2"}))
	fails[numbers](t, "Multiply", api.ErrLarge)(loop.Multiply(numbers{"1", tenthTo(300)}, numbers{"1", tenthTo(300)}))
	same(t, "Multiply at the limit", sure[numbers](t)(loop.Multiply(numbers{nines(600)}, numbers{"0", "1/" + nines(600)})), numbers{"0", "1"})
	fails[api.Rat](t, "Value", api.ErrLarge)(loop.Value(numbers{"1", nines(600)}, "1"))
	fails[numbers](t, "Scaled", api.ErrLarge)(loop.Scaled(numbers{"1", "0", "1"}, tenTo(300)))
	fails[numbers](t, "Scaled", api.ErrLarge)(loop.Scaled(numbers{"1", "0", "1"}, tenthTo(300)))
	same(t, "Scaled at the limit", sure[numbers](t)(loop.Scaled(numbers{"1", "0", "1/10"}, tenTo(300))), numbers{"1", "0", tenTo(599)})
	// Numbers on the way may be larger: 10^1200 - 10^300 10^900, and sums.
	same(t, "Value of large terms", sure[api.Rat](t)(loop.Value(numbers{"7", "0", "0", "-" + tenTo(300), "1"}, tenTo(300))), "7")
	same(t, "Multiply with large terms", sure[numbers](t)(loop.Multiply(numbers{nines(600), nines(600)}, numbers{"-1/" + nines(600), "1/" + nines(600)})), numbers{"-1", "0", "1"})
}
