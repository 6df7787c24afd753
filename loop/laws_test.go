package loop_test

import (
	"math/big"
	"math/rand"
	"slices"
	"testing"

	"lenslet/api"
	"lenslet/loop"
)

// P6.6 and P6: consequences.

// factor returns a polynomial whose roots all have the same magnitude, which is
// often 1 or near it.
func factor(r *rand.Rand) (values, *big.Rat) {
	magnitude := big.NewRat(int64(r.Intn(40)), 40)
	switch r.Intn(12) {
	case 0:
		magnitude = one()
	case 1:
		magnitude = big.NewRat(int64(r.Intn(20)+20), 20)
	case 2:
		magnitude = nearly(r.Intn(30) + 1)
	}
	scale := big.NewRat(int64(r.Intn(5)+1), int64(-r.Intn(3)-1))
	root := mul(magnitude, big.NewRat(int64(2*r.Intn(2)-1), 1))
	if r.Intn(2) == 0 {
		return product(values{scale}, values{root, one()}), magnitude
	}
	cosines := []*big.Rat{big.NewRat(3, 5), big.NewRat(-4, 5), big.NewRat(5, 13), new(big.Rat), big.NewRat(-15, 17)}
	cosine := cosines[r.Intn(len(cosines))]
	return product(values{scale}, values{mul(magnitude, magnitude), mul(mul(root, cosine), big.NewRat(-2, 1)), one()}), magnitude
}

func TestProductsOfKnownRoots(t *testing.T) {
	count := map[bool]int{}
	several(t, 19, 300, func(r *rand.Rand) {
		p, greatest := numbers{"1"}, new(big.Rat)
		for range r.Intn(6) + 1 {
			f, magnitude := factor(r)
			p = sure[numbers](t)(loop.Multiply(p, allFromBig(f)))
			greatest = maxOf(greatest, magnitude)
		}
		stable := sure[bool](t)(loop.Stable(p))
		same(t, "Stable", stable, greatest.Cmp(one()) < 0)
		count[stable]++
		s := sure[api.Span](t)(loop.Radius(p, r.Intn(3)+1))
		if greatest.Cmp(asBig(t, s.Low)) < 0 || greatest.Cmp(asBig(t, s.High)) >= 0 {
			t.Errorf("Radius of %v: got %v, want %v", p, s, greatest)
		}
	})
	if count[true] < 60 || count[false] < 60 {
		t.Errorf("%d stable products, %d others", count[true], count[false])
	}
}

func TestDecayedPolynomialsAreStable(t *testing.T) {
	decayed := 0
	several(t, 20, 300, func(r *rand.Rand) {
		p := allFromBig(randomPoly(r, r.Intn(4)+1))
		for n := range 20 {
			if asBig(t, sure[api.Rat](t)(loop.Decay(p, n))).Cmp(one()) < 0 {
				decayed++
				same(t, "Stable", sure[bool](t)(loop.Stable(p)), true)
				return
			}
		}
	})
	if decayed < 60 {
		t.Errorf("only %d polynomials decay", decayed)
	}
}

func isStableLoop(t *testing.T, p plan, gain *big.Rat) bool {
	t.Helper()
	p.gain = gain
	return sure[bool](t)(loop.Stable(sure[numbers](t)(loop.Closed(p.loop()))))
}

func TestGainsOfCertifiedSpans(t *testing.T) {
	certified := 0
	several(t, 21, 400, func(r *rand.Rand) {
		p := randomPlan(r)
		low := big.NewRat(int64(r.Intn(40)), 40)
		width := big.NewRat(int64(r.Intn(30)), 40)
		if !sure[bool](t)(loop.Certified(p.loop(), asSpan(span{low, add(low, width)}))) {
			return
		}
		certified++
		for k := range int64(11) {
			gain := add(low, mul(width, big.NewRat(k, 10)))
			same(t, "the stability with a gain of a certified span", isStableLoop(t, p, gain), true)
		}
	})
	if certified < 80 {
		t.Errorf("only %d certified spans", certified)
	}
}

func TestGainsBelowLimit(t *testing.T) {
	several(t, 22, 60, func(r *rand.Rand) {
		p, decimals := randomPlan(r), r.Intn(2)+1
		step := []*big.Rat{big.NewRat(1, 10), big.NewRat(1, 100)}[decimals-1]
		limit := asBig(t, sure[api.Rat](t)(loop.Limit(p.loop(), decimals)))
		for gain := step; gain.Cmp(limit) < 0; gain = add(gain, step) {
			same(t, "the stability with a gain below the limit", isStableLoop(t, p, gain), true)
		}
		same(t, "the stability with the limit", isStableLoop(t, p, limit), false)
	})
}

func TestRunsAreLinear(t *testing.T) {
	several(t, 23, 100, func(r *rand.Rand) {
		l, n := randomPlan(r).loop(), r.Intn(20)+1
		x, y, factor := randomValues(r, n), randomValues(r, n), randomRat(r)
		combined := func(x, y values) numbers {
			list := values{}
			for k := range x {
				list = append(list, add(x[k], mul(factor, y[k])))
			}
			return allFromBig(list)
		}
		a, b := sure[frames](t)(run(l, allFromBig(x))), sure[frames](t)(run(l, allFromBig(y)))
		both := sure[frames](t)(run(l, combined(x, y)))
		same(t, "the residuals of a sum", both.residuals, combined(allBig(t, a.residuals), allBig(t, b.residuals)))
		same(t, "the commands of a sum", both.commands, combined(allBig(t, a.commands), allBig(t, b.commands)))
		later := filled(r.Intn(10), "0")
		late := sure[frames](t)(run(l, slices.Concat(later, allFromBig(x))))
		same(t, "the residuals of a later disturbance", late.residuals, slices.Concat(later, a.residuals))
		same(t, "the commands of a later disturbance", late.commands, slices.Concat(later, a.commands))
	})
}

func TestRecurrenceOfClosedPolynomial(t *testing.T) {
	several(t, 24, 100, func(r *rand.Rand) {
		l := randomPlan(r).loop()
		p := allBig(t, sure[numbers](t)(loop.Closed(l)))
		e := allBig(t, sure[numbers](t)(loop.Impulse(l, 30)))
		for first := range len(e) - len(p) + 1 {
			sum := new(big.Rat)
			for power, c := range p {
				sum = add(sum, mul(c, e[first+power]))
			}
			if sum.Sign() != 0 {
				t.Errorf("the residuals of %v do not satisfy the recurrence at %d", l, first)
			}
		}
	})
}

func TestResidualsComeNearSteadyOne(t *testing.T) {
	several(t, 25, 40, func(r *rand.Rand) {
		p := stablePlan(r)
		if asBig(t, sure[api.Span](t)(loop.Radius(sure[numbers](t)(loop.Closed(p.loop())), 1)).High).Cmp(big.NewRat(7, 10)) > 0 {
			return
		}
		last := sure[frames](t)(run(p.loop(), filled(64, "1"))).residuals[63]
		far := sub(asBig(t, last), asBig(t, sure[api.Rat](t)(loop.Steady(p.loop()))))
		if far.Abs(far).Cmp(big.NewRat(1, 100000)) > 0 {
			t.Errorf("the last residual of %v is %s away from the steady one", p.loop(), far.FloatString(9))
		}
	})
}

func TestSweepsAreNearRejections(t *testing.T) {
	several(t, 26, 60, func(r *rand.Rand) {
		p, n := stablePlan(r), r.Intn(64)+1
		list := sure[[]complex128](t)(loop.Sweep(p.loop(), n))
		for range 4 {
			k := r.Intn(n)
			s, e := loop.Rejection(p.loop(), frequency(k, n), 12)
			if e == api.ErrZero {
				continue
			}
			square := real(list[k])*real(list[k]) + imag(list[k])*imag(list[k])
			low, _ := asBig(t, s.Low).Float64()
			high, _ := asBig(t, s.High).Float64()
			if margin := 1e-6 * (1 + square); square < low-margin || square > high+margin {
				t.Errorf("the sweep of %v has the square %v at %d of %d, the rejection is %v to %v", p.loop(), square, k, n, low, high)
			}
		}
	})
}

func TestBestHasLeastCost(t *testing.T) {
	several(t, 27, 60, func(r *rand.Rand) {
		p, record := stablePlan(r), allFromBig(randomValues(r, 10))
		gains := numbers{fromBig(p.gain), "1/2", "1/4", "1"}
		got := sure[choice](t)(best(p.loop(), gains, record))
		for _, gain := range gains {
			l := p.loop()
			l.Gain = gain
			cost := asBig(t, sure[api.Rat](t)(loop.Cost(l, record)))
			if isStableLoop(t, p, asBig(t, gain)) && cost.Cmp(asBig(t, got.cost)) < 0 {
				t.Errorf("the gain %s has a lesser cost than %s", gain, gains[got.index])
			}
		}
	})
}
