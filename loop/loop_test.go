package loop_test

import (
	"math/big"
	"math/rand"
	"testing"

	"lenslet/api"
	"lenslet/loop"
)

// P6.3: loops.

func TestCheckLoop(t *testing.T) {
	for _, good := range []Loop{example(), delayed(), {"0", "0", "0", 0}, {"7", "1/2", "100", 6}, {nines(600), "1/" + nines(600), nines(600) + "/" + nines(599) + "8", 3}} {
		same(t, "CheckLoop", loop.CheckLoop(good), api.OK)
	}
	for _, bad := range badLoops() {
		same(t, "CheckLoop", loop.CheckLoop(bad.l), bad.e)
	}
}

func TestErrorsOfLoops(t *testing.T) {
	for _, bad := range badLoops() {
		fails[numbers](t, "Closed", bad.e)(loop.Closed(bad.l))
		fails[api.Rat](t, "Limit", bad.e)(loop.Limit(bad.l, 0))
		fails[api.Rat](t, "Margin", bad.e)(loop.Margin(bad.l, 3))
		fails[bool](t, "Certified", bad.e)(loop.Certified(bad.l, api.Span{}))
		fails[api.Rat](t, "Steady", bad.e)(loop.Steady(bad.l))
	}
	unstable := Loop{"0", "1", "0", 0}
	for _, decimals := range []int{-1 << 63, -1, 0, 3, 1<<63 - 1} {
		fails[api.Rat](t, "Limit", api.ErrRange)(loop.Limit(example(), decimals))
		fails[api.Rat](t, "Margin", api.ErrRange)(loop.Margin(unstable, decimals))
	}
	fails[api.Rat](t, "Margin of an unstable loop", api.ErrUnstable)(loop.Margin(unstable, 1))
	fails[api.Rat](t, "Margin of an unstable loop", api.ErrUnstable)(loop.Margin(Loop{"2", "1", "0", 0}, 2))
	fails[api.Rat](t, "Margin without a gain", api.ErrZero)(loop.Margin(Loop{"0", "1/2", "0", 0}, 2))
	fails[api.Rat](t, "Steady of an unstable loop", api.ErrUnstable)(loop.Steady(unstable))
	fails[api.Rat](t, "Steady of an unstable loop", api.ErrUnstable)(loop.Steady(Loop{"1", "1", "0", 1}))
}

func TestClosed(t *testing.T) {
	for _, row := range []struct {
		l    Loop
		want numbers
	}{
		{example(), numbers{"0", "-1/2", "1"}}, {delayed(), numbers{"0", "1/2", "-1", "1"}},
		{Loop{"1/3", "1/2", "1/4", 0}, numbers{"-1/4", "1/12", "1"}}, {Loop{"1/3", "1/2", "1/4", 1}, numbers{"-1/4", "7/12", "-1/2", "1"}},
		{Loop{"2", "0", "3", 6}, numbers{"-3", "5", "0", "0", "0", "0", "0", "0", "1"}}, {Loop{"2", "3/4", "0", 3}, numbers{"0", "2", "0", "0", "-3/4", "1"}},
	} {
		same(t, "Closed", sure[numbers](t)(loop.Closed(row.l)), row.want)
	}
	several(t, 8, 100, func(r *rand.Rand) {
		p := randomPlan(r)
		sameList(t, "Closed", p.closed())(loop.Closed(p.loop()))
	})
	fails[numbers](t, "Closed", api.ErrLarge)(loop.Closed(Loop{nines(600), "0", "1", 1}))
	fails[numbers](t, "Closed", api.ErrLarge)(loop.Closed(Loop{"1/" + nines(600), "0", tenthTo(599), 1}))
	// The sum of the gain and the prediction alone has 601 digits.
	same(t, "Closed at the limit", sure[numbers](t)(loop.Closed(Loop{nines(600), "1", "1", 0})), numbers{"-1", nines(600), "1"})
}

// limitOf returns the limit by trying gain after gain.
func limitOf(p plan, decimals int) *big.Rat {
	scale := []int64{10, 100}[decimals-1]
	for n := int64(1); ; n++ {
		p.gain = big.NewRat(n, scale)
		if !isStable(p.closed()) {
			return p.gain
		}
	}
}

func TestLimit(t *testing.T) {
	for _, row := range []struct {
		l        Loop
		decimals int
		want     api.Rat
	}{
		{example(), 1, "2"}, {example(), 2, "2"}, {delayed(), 1, "1"}, {delayed(), 2, "1"}, {Loop{"0", "1", "0", 1}, 2, "1"}, {Loop{"100", "1", "0", 0}, 1, "2"},
		{Loop{"0", "0", "0", 0}, 1, "1"}, {Loop{"0", "0", "0", 6}, 2, "1"}, {Loop{"0", "1", "0", 2}, 1, "7/10"}, {Loop{"0", "1", "0", 2}, 2, "31/50"},
		// No gain makes these stable.
		{Loop{"1/2", "1", "1", 0}, 1, "1/10"}, {Loop{"1/2", "1", "5", 3}, 2, "1/100"}, {Loop{nines(600), "1", nines(600), 0}, 2, "1/100"},
		{Loop{"1/2", "1", "1/4", 0}, 2, "3/2"}, {Loop{"1/2", "1", "0", 6}, 1, "3/10"},
	} {
		same(t, "Limit", sure[api.Rat](t)(loop.Limit(row.l, row.decimals)), row.want)
	}
	several(t, 9, 60, func(r *rand.Rand) {
		p, decimals := randomPlan(r), r.Intn(2)+1
		sameNumber(t, "Limit", limitOf(p, decimals))(loop.Limit(p.loop(), decimals))
	})
}

// TestLimitOfLongNumbers has limits that are just a multiple, or just not.
func TestLimitOfLongNumbers(t *testing.T) {
	long := tenTo(599)
	less := nines(599) + "/" + long
	for _, row := range []struct {
		leak api.Rat
		want api.Rat
	}{{"1", "2"}, {less, "2"}, {nines(599)[:598] + "8/" + nines(599), "2"}} {
		same(t, "Limit of a long leak", sure[api.Rat](t)(loop.Limit(Loop{"0", row.leak, "0", 0}, 2)), row.want)
	}
	same(t, "Limit below a multiple", sure[api.Rat](t)(loop.Limit(Loop{"0", "0", "0", 0}, 2)), "1")
	same(t, "Limit with a short prediction", sure[api.Rat](t)(loop.Limit(Loop{"0", "1", "1/20", 0}, 1)), "19/10")
	same(t, "Limit with a long prediction", sure[api.Rat](t)(loop.Limit(Loop{"0", "1", "1/" + nines(600), 0}, 1)), "2")
	// The limit of all gains is 19/10 - 2/long, and 19/10 + 2/long.
	same(t, "Limit with a long prediction", sure[api.Rat](t)(loop.Limit(Loop{"0", "1", fromBig(add(big.NewRat(1, 20), asBig(t, "1/"+long))), 0}, 1)), "19/10")
	same(t, "Limit with a long prediction", sure[api.Rat](t)(loop.Limit(Loop{"0", "1", fromBig(sub(big.NewRat(1, 20), asBig(t, "1/"+long))), 0}, 1)), "2")
}

func TestMargin(t *testing.T) {
	same(t, "Margin", sure[api.Rat](t)(loop.Margin(example(), 1)), "4")
	same(t, "Margin", sure[api.Rat](t)(loop.Margin(delayed(), 2)), "2")
	same(t, "Margin", sure[api.Rat](t)(loop.Margin(Loop{"3/4", "0", "0", 0}, 2)), "4/3")
	several(t, 10, 60, func(r *rand.Rand) {
		p, decimals := randomPlan(r), r.Intn(2)+1
		switch {
		case !isStable(p.closed()):
			fails[api.Rat](t, "Margin", api.ErrUnstable)(loop.Margin(p.loop(), decimals))
		case p.gain.Sign() == 0:
			fails[api.Rat](t, "Margin", api.ErrZero)(loop.Margin(p.loop(), decimals))
		default:
			sameNumber(t, "Margin", div(limitOf(p, decimals), p.gain))(loop.Margin(p.loop(), decimals))
		}
	})
	fails[api.Rat](t, "Margin", api.ErrLarge)(loop.Margin(Loop{"1/" + nines(600), "1", "0", 0}, 1))
	same(t, "Margin at the limit", sure[api.Rat](t)(loop.Margin(Loop{tenthTo(599), "1", "0", 1}, 1)), tenTo(599))
}

func TestSteady(t *testing.T) {
	same(t, "Steady", sure[api.Rat](t)(loop.Steady(example())), "0")
	same(t, "Steady with a leak", sure[api.Rat](t)(loop.Steady(Loop{"1/2", "1/2", "0", 0})), "1/2")
	same(t, "Steady without a gain", sure[api.Rat](t)(loop.Steady(Loop{"0", "1/2", "0", 5})), "1")
	same(t, "Steady with a prediction", sure[api.Rat](t)(loop.Steady(Loop{"1/5", "2/5", "1/4", 1})), "3/4")
	several(t, 11, 100, func(r *rand.Rand) {
		p := stablePlan(r)
		loss := sub(one(), p.leak)
		sameNumber(t, "Steady", div(loss, add(loss, p.gain)))(loop.Steady(p.loop()))
	})
	fails[api.Rat](t, "Steady", api.ErrLarge)(loop.Steady(Loop{"1/" + nines(600), tenthTo(599), "0", 0}))
	same(t, "Steady of small numbers", sure[api.Rat](t)(loop.Steady(Loop{tenthTo(599), nines(599) + "/" + tenTo(599), "0", 0})), "1/2")
	fails[api.Rat](t, "Steady of an unstable loop", api.ErrUnstable)(loop.Steady(Loop{"1/" + nines(600), "1", "1", 0}))
}

func TestErrorsOfCertified(t *testing.T) {
	for _, row := range []struct {
		s api.Span
		e api.Errno
	}{
		{api.Span{}, api.ErrForm}, {api.Span{Low: "1", High: "1/2"}, api.ErrOrder}, {api.Span{Low: "-1", High: "-2"}, api.ErrOrder}, {api.Span{Low: "1", High: tenTo(600)}, api.ErrLarge},
		{api.Span{Low: "x", High: tenTo(600)}, api.ErrForm}, {api.Span{Low: "-1", High: "x"}, api.ErrForm}, {api.Span{Low: "-1/100", High: "1"}, api.ErrRange}, {api.Span{Low: "-2", High: "-1"}, api.ErrRange},
	} {
		fails[bool](t, "Certified", row.e)(loop.Certified(example(), row.s))
		fails[bool](t, "Certified", row.e)(loop.Certified(Loop{"0", "1", "9", 6}, row.s))
	}
}

func TestCertified(t *testing.T) {
	for _, row := range []struct {
		l         Loop
		low, high api.Rat
		want      bool
	}{
		{example(), "1/4", "3/2", true}, {example(), "1/4", "2", false}, {example(), "1/4", nines(600) + "/5" + tenTo(599)[1:], true}, {example(), "0", "1", false}, {example(), "1/" + nines(600), "1", true},
		{Loop{"0", "1", "0", 0}, "1/4", "3/2", true}, {Loop{nines(600), "1", "0", 0}, "1/4", "3/2", true}, {delayed(), "1/4", "3/4", false}, {delayed(), "1/4", "1/4", true}, {delayed(), "1", "1", false},
		{Loop{"0", "1/2", "1", 0}, "0", "0", false}, {Loop{"0", "1/2", "0", 6}, "0", "0", true}, {Loop{"0", "1/2", "0", 6}, "0", "1/10", true}, {Loop{"0", "1/2", "0", 6}, "0", "3/20", false}, {Loop{"0", "1/2", "0", 6}, "0", tenTo(599), false},
	} {
		if got := sure[bool](t)(loop.Certified(row.l, api.Span{Low: row.low, High: row.high})); got != row.want {
			t.Errorf("Certified of %v from %s to %s: got %v", row.l, row.low, row.high, got)
		}
	}
}

// span has the ends of a span.
type span [2]*big.Rat

// times returns the least and the greatest product of ends.
func (a span) times(b span) span {
	least, greatest := mul(a[0], b[0]), mul(a[0], b[0])
	for _, x := range a {
		for _, y := range b {
			least, greatest = minOf(least, mul(x, y)), maxOf(greatest, mul(x, y))
		}
	}
	return span{least, greatest}
}

func (a span) minus(b span) span { return span{sub(a[0], b[1]), sub(a[1], b[0])} }

// greatest returns the greatest absolute value.
func (a span) greatest() *big.Rat {
	return maxOf(new(big.Rat).Abs(a[0]), new(big.Rat).Abs(a[1]))
}

// least returns the least absolute value.
func (a span) least() *big.Rat {
	return maxOf(new(big.Rat), maxOf(a[0], new(big.Rat).Neg(a[1])))
}

func maxOf(x, y *big.Rat) *big.Rat {
	if x.Cmp(y) < 0 {
		return y
	}
	return x
}

func minOf(x, y *big.Rat) *big.Rat {
	if x.Cmp(y) > 0 {
		return y
	}
	return x
}

// certificate computes the certificate as the document says it.
func certificate(p plan, gains span) bool {
	list := []span{}
	p.gain = new(big.Rat)
	for _, c := range p.closed() {
		list = append(list, span{c, c})
	}
	list[1] = span{add(list[1][0], gains[0]), add(list[1][1], gains[1])}
	for n := len(list) - 1; n >= 1; n-- {
		s, t := list[0], list[n]
		if s.greatest().Cmp(t.least()) >= 0 {
			return false
		}
		next := make([]span, n)
		for k := range next {
			next[k] = t.times(list[k+1]).minus(s.times(list[n-1-k]))
		}
		list = next
	}
	return true
}

func asSpan(s span) api.Span { return api.Span{Low: fromBig(s[0]), High: fromBig(s[1])} }

func TestCertificate(t *testing.T) {
	count := map[bool]int{}
	several(t, 12, 1500, func(r *rand.Rand) {
		p := randomPlan(r)
		low := big.NewRat(int64(r.Intn(12)), 8)
		gains := span{low, add(low, big.NewRat(int64(r.Intn(16)), 32))}
		got := sure[bool](t)(loop.Certified(p.loop(), asSpan(gains)))
		if want := certificate(p, gains); got != want {
			t.Errorf("Certified of %v for %v: got %v", p.loop(), gains, got)
		}
		count[got]++
	})
	if count[true] < 200 || count[false] < 200 {
		t.Errorf("%d certified spans, %d others", count[true], count[false])
	}
}

// TestEndOfCertificate has spans that are just certified, and just not.
func TestEndOfCertificate(t *testing.T) {
	several(t, 13, 40, func(r *rand.Rand) {
		p := stablePlan(r)
		gains, step := span{p.gain, p.gain}, one()
		if !certificate(p, gains) {
			t.Fatalf("%v is not certified for its own gain", p.loop())
		}
		for range 40 {
			wider := span{gains[0], add(gains[1], step)}
			want := certificate(p, wider)
			same(t, "Certified", sure[bool](t)(loop.Certified(p.loop(), asSpan(wider))), want)
			if want {
				gains = wider
			}
			step = mul(step, big.NewRat(1, 2))
		}
	})
}
