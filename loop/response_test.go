package loop_test

import (
	"math"
	"math/big"
	"math/rand"
	"testing"

	"lenslet/api"
	"lenslet/loop"
	"lenslet/number"
)

// P6.5: frequencies.

func TestErrorsOfRejection(t *testing.T) {
	for _, bad := range badLoops() {
		fails[api.Span](t, "Rejection", bad.e)(loop.Rejection(bad.l, "2/4", 0))
	}
	for a, e := range badNumbers() {
		fails[api.Span](t, "Rejection", e)(loop.Rejection(example(), a, 0))
	}
	large := "1/" + api.Rat("1000000000")
	for _, decimals := range []int{-1 << 63, -1, 0, 13, 1<<63 - 1} {
		fails[api.Span](t, "Rejection", api.ErrRange)(loop.Rejection(example(), "1/2", decimals))
		fails[api.Span](t, "Rejection", api.ErrRange)(loop.Rejection(example(), large, decimals))
	}
	// The value of this closed polynomial is 0 near each frequency of large.
	unstable := Loop{"0", "1", "0", 0}
	fails[api.Span](t, "Rejection", api.ErrLarge)(loop.Rejection(example(), large, 1))
	fails[api.Span](t, "Rejection", api.ErrLarge)(loop.Rejection(unstable, large, 1))
	fails[api.Span](t, "Rejection", api.ErrLarge)(loop.Rejection(unstable, "-"+nines(600)+"/"+tenTo(599), 12))
	fails[api.Span](t, "Rejection", api.ErrZero)(loop.Rejection(unstable, "1/999999999", 1))
	fails[api.Span](t, "Rejection", api.ErrZero)(loop.Rejection(unstable, "0", 12))
	fails[api.Span](t, "Rejection", api.ErrZero)(loop.Rejection(Loop{"2", "1", "0", 0}, "-3/2", 12))
	fails[api.Span](t, "Rejection", api.ErrZero)(loop.Rejection(Loop{"1", "1", "0", 1}, "1/6", 12))
	// With 1 decimal the span in the denominator contains 0, with 2 it does not.
	fails[api.Span](t, "Rejection", api.ErrZero)(loop.Rejection(Loop{"19/20", "1", "0", 1}, "4/25", 1))
	sure[api.Span](t)(loop.Rejection(Loop{"19/20", "1", "0", 1}, "4/25", 2))
}

func TestRejection(t *testing.T) {
	for _, row := range []struct {
		l        Loop
		turn     api.Rat
		decimals int
		want     api.Span
	}{
		{example(), "1/2", 1, api.Span{Low: "16/9", High: "16/9"}}, {example(), "-5/2", 12, api.Span{Low: "16/9", High: "16/9"}}, {example(), "0", 1, api.Span{Low: "0", High: "0"}},
		{example(), "1/4", 3, api.Span{Low: "8/5", High: "8/5"}}, {example(), "3/4", 3, api.Span{Low: "8/5", High: "8/5"}}, {Loop{"1/2", "1/2", "0", 0}, "0", 1, api.Span{Low: "1/4", High: "1/4"}},
		{Loop{"3", "1", "0", 0}, "1/2", 1, api.Span{Low: "4", High: "4"}}, {Loop{"0", "1/2", "0", 3}, "1/2", 1, api.Span{Low: "1", High: "1"}}, {Loop{"1", "0", "1/2", 0}, "1/4", 5, api.Span{Low: "2/9", High: "2/9"}},
	} {
		same(t, "Rejection", sure[api.Span](t)(loop.Rejection(row.l, row.turn, row.decimals)), row.want)
	}
}

func single(a api.Rat) api.Span { return api.Span{Low: a, High: a} }

// valueAt computes the box of a polynomial at a frequency as the document says
// it, with package number.
func valueAt(t *testing.T, p values, turn api.Rat, decimals int) api.Box {
	t.Helper()
	sum := api.Box{Re: single("0"), Im: single("0")}
	for k, c := range p {
		at := sure[api.Rat](t)(number.Mul(turn, fromBig(big.NewRat(int64(k), 1))))
		box := sure[api.Box](t)(number.Turn(at, decimals))
		for _, s := range []*api.Span{&box.Re, &box.Im} {
			*s = sure[api.Span](t)(number.Times(single(fromBig(c)), *s))
		}
		sum = sure[api.Box](t)(number.AddBox(sum, box))
	}
	return sum
}

// rejection computes the span of the rejection as the document says it.
func rejection(t *testing.T, p plan, turn api.Rat, decimals int) (api.Span, api.Errno) {
	t.Helper()
	above := sure[api.Box](t)(number.Turn(turn, decimals))
	above.Re = sure[api.Span](t)(number.Minus(above.Re, single(fromBig(p.leak))))
	below := valueAt(t, p.closed(), turn, decimals)
	return number.Over(sure[api.Span](t)(number.Norm(above)), sure[api.Span](t)(number.Norm(below)))
}

func TestRejectionOfRandomLoops(t *testing.T) {
	zero := 0
	several(t, 16, 300, func(r *rand.Rand) {
		p, decimals := randomPlan(r), r.Intn(12)+1
		turn := fromBig(big.NewRat(int64(r.Intn(100)-50), int64(r.Intn(24)+1)))
		want, e := rejection(t, p, turn, decimals)
		if e == api.ErrZero {
			zero++
			fails[api.Span](t, "Rejection", e)(loop.Rejection(p.loop(), turn, decimals))
			return
		}
		same(t, "Rejection", sure[api.Span](t)(loop.Rejection(p.loop(), turn, decimals)), want)
	})
	if zero == 0 || zero > 100 {
		t.Errorf("%d denominators with 0", zero)
	}
}

func TestRejectionOfLongNumbers(t *testing.T) {
	// 10^599 and 10^599 + 1 thirds are 1/3 and 2/3 after whole turns.
	third := sure[api.Span](t)(loop.Rejection(example(), "1/3", 4))
	same(t, "Rejection at a long frequency", sure[api.Span](t)(loop.Rejection(example(), tenTo(599)+"/3", 4)), third)
	same(t, "Rejection at a long frequency", sure[api.Span](t)(loop.Rejection(example(), "-"+tenTo(599)[:599]+"1/3", 4)), sure[api.Span](t)(loop.Rejection(example(), "-2/3", 4)))
	// Multiples of it have more digits than a number may have.
	late := Loop{"1/4", "3/4", "1/8", 6}
	same(t, "Rejection at a long frequency", sure[api.Span](t)(loop.Rejection(late, nines(600)+"/16", 4)), sure[api.Span](t)(loop.Rejection(late, "15/16", 4)))
	same(t, "Rejection of a long gain", sure[api.Span](t)(loop.Rejection(Loop{nines(600), "1", nines(600), 6}, "0", 1)), single("0"))
}

func TestLargeRejection(t *testing.T) {
	fails[api.Span](t, "Rejection", api.ErrLarge)(loop.Rejection(Loop{tenTo(300), "0", "0", 0}, "0", 1))
	fails[api.Span](t, "Rejection", api.ErrLarge)(loop.Rejection(Loop{"1/" + nines(600), "0", "0", 0}, "1/8", 1))
	same(t, "Rejection at the limit", sure[api.Span](t)(loop.Rejection(Loop{nines(299), "0", "0", 0}, "0", 1)), single(tenthTo(598)))
}

func TestErrorsOfSweeps(t *testing.T) {
	nan, infinite := math.NaN(), math.Inf(-1)
	for _, bad := range badLoops() {
		fails[[]complex128](t, "Sweep", bad.e)(loop.Sweep(bad.l, 0))
		same(t, "CheckSweep", loop.CheckSweep(bad.l, nil), bad.e)
	}
	unstable := Loop{"2", "1", "0", 0}
	for _, n := range []int{-1 << 63, -1, 0, 65, 1<<63 - 1} {
		fails[[]complex128](t, "Sweep", api.ErrRange)(loop.Sweep(unstable, n))
	}
	fails[[]complex128](t, "Sweep", api.ErrUnstable)(loop.Sweep(unstable, 1))
	fails[[]complex128](t, "Sweep", api.ErrUnstable)(loop.Sweep(Loop{"0", "1", "0", 0}, 64))
	for _, l := range []Loop{example(), unstable} {
		for _, row := range []struct {
			list []complex128
			e    api.Errno
		}{
			{nil, api.ErrEmpty}, {make([]complex128, 65), api.ErrMany}, {append(make([]complex128, 64), complex(nan, 0)), api.ErrMany},
			{[]complex128{complex(nan, 0)}, api.ErrForm}, {[]complex128{complex(0, nan)}, api.ErrForm}, {[]complex128{0, complex(infinite, 0)}, api.ErrForm}, {[]complex128{5, complex(1, -infinite)}, api.ErrForm},
		} {
			same(t, "CheckSweep", loop.CheckSweep(l, row.list), row.e)
		}
	}
	same(t, "CheckSweep of an unstable loop", loop.CheckSweep(unstable, []complex128{0}), api.ErrUnstable)
	same(t, "CheckSweep of an unstable loop", loop.CheckSweep(Loop{"0", "1", "0", 0}, []complex128{7}), api.ErrUnstable)
}

func TestSweep(t *testing.T) {
	list := sure[[]complex128](t)(loop.Sweep(example(), 2))
	for k, want := range []complex128{0, 1.2 + 0.4i} {
		if far := list[k] - want; math.Hypot(real(far), imag(far)) > 1e-8 {
			t.Errorf("Sweep at %d: got %v, want %v", k, list[k], want)
		}
	}
	for _, row := range []struct {
		list []complex128
		e    api.Errno
	}{
		{[]complex128{0, 1.2 + 0.4i}, api.OK}, {[]complex128{0}, api.OK}, {[]complex128{0, 1.2 + 0.4i, 0}, api.ErrProof}, {[]complex128{1.2 + 0.4i, 0}, api.ErrProof},
		{[]complex128{0, 1.2 - 0.4i}, api.ErrProof}, {[]complex128{0, 0.4 + 1.2i}, api.ErrProof}, {[]complex128{1e-6, 1.2 + 0.4i}, api.ErrProof}, {[]complex128{0, 1.2 + 0.400001i}, api.ErrProof},
		{[]complex128{1e-300i, 1.2 + 0.4i}, api.OK}, {[]complex128{complex(math.Copysign(0, -1), math.Copysign(0, -1)), 1.2 + 0.4i}, api.OK},
		{[]complex128{math.SmallestNonzeroFloat64, 1.2 + 0.4i}, api.OK}, {[]complex128{math.MaxFloat64, 1.2 + 0.4i}, api.ErrProof}, {[]complex128{0, complex(1.2, -math.MaxFloat64)}, api.ErrProof},
	} {
		same(t, "CheckSweep", loop.CheckSweep(example(), row.list), row.e)
	}
	same(t, "Sweep of 64", len(sure[[]complex128](t)(loop.Sweep(delayed(), 64))), 64)
	same(t, "Sweep of 1", len(sure[[]complex128](t)(loop.Sweep(delayed(), 1))), 1)
}

// accepted decides whether a number is accepted at a frequency as the document
// says it: the boxes by package number, the rest with numbers of any size.
func accepted(t *testing.T, p plan, turn api.Rat, c complex128) bool {
	t.Helper()
	above := zeros(p.delay + 3)
	above[p.delay+2], above[p.delay+1] = one(), new(big.Rat).Neg(p.leak)
	n, b := valueAt(t, above, turn, 12), valueAt(t, p.closed(), turn, 12)
	re, im := new(big.Rat).SetFloat64(real(c)), new(big.Rat).SetFloat64(imag(c))
	x, y := span{re, re}, span{im, im}
	real := x.times(spanOf(t, b.Re)).minus(y.times(spanOf(t, b.Im))).minus(spanOf(t, n.Re))
	// The sum of two spans is the difference with the negated second one.
	imag := x.times(spanOf(t, b.Im)).minus(span{new(big.Rat).Neg(im), new(big.Rat).Neg(im)}.times(spanOf(t, b.Re))).minus(spanOf(t, n.Im))
	size := big.NewRat(2, 1)
	for _, c := range p.closed() {
		size = add(size, new(big.Rat).Abs(c))
	}
	tolerance := add(one(), add(new(big.Rat).Abs(re), new(big.Rat).Abs(im)))
	tolerance = mul(mul(tolerance, size), big.NewRat(1, 1<<30))
	return maxOf(real.greatest(), imag.greatest()).Cmp(tolerance) <= 0
}

func spanOf(t *testing.T, s api.Span) span { return span{asBig(t, s.Low), asBig(t, s.High)} }

// frequency returns that with the index k of n.
func frequency(k, n int) api.Rat { return fromBig(big.NewRat(int64(k), int64(2*n))) }

func TestSweepsOfRandomLoops(t *testing.T) {
	several(t, 17, 60, func(r *rand.Rand) {
		p, n := stablePlan(r), r.Intn(64)+1
		list := sure[[]complex128](t)(loop.Sweep(p.loop(), n))
		same(t, "the length of a sweep", len(list), n)
		same(t, "CheckSweep", loop.CheckSweep(p.loop(), list), api.OK)
		for range 3 {
			k := r.Intn(n)
			if !accepted(t, p, frequency(k, n), list[k]) {
				t.Errorf("the sweep of %v has %v at %d of %d", p.loop(), list[k], k, n)
			}
		}
		for _, c := range list {
			if real(c) == 0 && math.Signbit(real(c)) || imag(c) == 0 && math.Signbit(imag(c)) {
				t.Errorf("the sweep of %v has %v", p.loop(), c)
			}
		}
	})
}

// TestTolerance looks for the ends of the numbers that are accepted.
func TestTolerance(t *testing.T) {
	several(t, 18, 60, func(r *rand.Rand) {
		p, n := stablePlan(r), r.Intn(6)+1
		list := sure[[]complex128](t)(loop.Sweep(p.loop(), n))
		k := r.Intn(n)
		middle, step := list[k], complex(r.Float64()-0.5, r.Float64()-0.5)
		for range 60 {
			list[k] = middle + step
			want := api.ErrProof
			if accepted(t, p, frequency(k, n), list[k]) {
				want, middle = api.OK, list[k]
			}
			same(t, "CheckSweep", loop.CheckSweep(p.loop(), list), want)
			step /= 2
		}
	})
}

// TestEndOfTolerance has a number that differs by just the tolerance: c times
// the gain is 2^-30 (1 + c) (4 + the gain).
func TestEndOfTolerance(t *testing.T) {
	l := Loop{fromBig(big.NewRat(4*(1<<26+1), 1<<30-1<<26-1)), "1", "0", 1}
	c := math.Ldexp(1, -26)
	same(t, "CheckSweep", loop.CheckSweep(l, []complex128{complex(c, 0)}), api.OK)
	same(t, "CheckSweep", loop.CheckSweep(l, []complex128{complex(math.Nextafter(c, 1), 0)}), api.ErrProof)
	same(t, "CheckSweep", loop.CheckSweep(l, []complex128{complex(-c, 0)}), api.OK)
	same(t, "CheckSweep", loop.CheckSweep(l, []complex128{complex(0, math.Nextafter(-c, -1))}), api.ErrProof)
	same(t, "CheckSweep", loop.CheckSweep(l, []complex128{complex(0, -c)}), api.OK)
}

// TestSweepNearPoles has closed polynomials that are nearly, or within the
// decimals, 0 at a frequency of the sweep: the true response may be too large
// for a float.
func TestSweepNearPoles(t *testing.T) {
	for _, digits := range []int{3, 8, 9, 10, 11, 12, 13, 15, 40, 500} {
		less := fromBig(nearly(digits))
		for _, l := range []Loop{
			{less, "1", "0", 1}, {tenthTo(digits), "1", "0", 0}, {tenthTo(digits), "1", "0", 6}, {tenthTo(digits), less, "0", 2},
			{"0", less, "0", 3}, {"1/4", less, less, 0}, {"1/4", less, less, 0}, {"0", less, less, 0}, {"0", less, less, 1}, {"0", "1", less, 0},
		} {
			if !isStable(asPlan(t, l).closed()) {
				continue
			}
			for _, n := range []int{1, 3, 6, 12, 64} {
				list := sure[[]complex128](t)(loop.Sweep(l, n))
				same(t, "CheckSweep", loop.CheckSweep(l, list), api.OK)
				for k, c := range list {
					if n <= 6 && !accepted(t, asPlan(t, l), frequency(k, n), c) {
						t.Errorf("the sweep of %v has %v at %d of %d", l, c, k, n)
					}
				}
			}
		}
	}
}
