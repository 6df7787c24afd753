package loop_test

import (
	"math/big"
	"math/rand"
	"testing"

	"lenslet/api"
	"lenslet/loop"
)

// P6.4: runs.

func TestErrorsOfRuns(t *testing.T) {
	for _, bad := range badLoops() {
		fails[frames](t, "Run", bad.e)(run(bad.l, numbers{"2/4"}))
		fails[numbers](t, "Impulse", bad.e)(loop.Impulse(bad.l, -1))
		fails[api.Rat](t, "Cost", bad.e)(loop.Cost(bad.l, filled(65, "1")))
		fails[choice](t, "Best", bad.e)(best(bad.l, nil, filled(65, "1")))
	}
	for _, bad := range badRecords() {
		fails[frames](t, "Run", bad.e)(run(example(), bad.list))
		fails[api.Rat](t, "Cost", bad.e)(loop.Cost(example(), bad.list))
		fails[choice](t, "Best", bad.e)(best(example(), numbers{"5"}, bad.list))
	}
	for _, n := range []int{-1 << 63, -1, 65, 1<<63 - 1} {
		fails[numbers](t, "Impulse", api.ErrRange)(loop.Impulse(example(), n))
	}
}

func TestErrorsOfBest(t *testing.T) {
	record := numbers{"1", "1"}
	for _, row := range []badList{
		{nil, api.ErrEmpty}, {filled(33, "1"), api.ErrMany}, {filled(33, "x"), api.ErrMany}, {numbers{"-1", "x"}, api.ErrRange}, {numbers{"1", "x", "-1"}, api.ErrForm}, {numbers{tenTo(600), "x"}, api.ErrLarge},
		{numbers{"2"}, api.ErrNone}, {numbers{"0", "5", "2"}, api.ErrNone}, {filled(32, "3"), api.ErrNone},
	} {
		fails[choice](t, "Best", row.e)(best(example(), row.list, record))
	}
	for a, e := range badAmounts() {
		fails[choice](t, "Best", e)(best(example(), append(filled(31, "1"), a), record))
		fails[choice](t, "Best", e)(best(example(), numbers{a, "1"}, numbers{"x"}))
	}
	fails[choice](t, "Best", api.ErrForm)(best(example(), numbers{"5"}, numbers{"x"}))
	// The loop itself need not be stable, but have no error.
	same(t, "Best of an unstable loop", sure[choice](t)(best(Loop{"7", "1", "0", 0}, numbers{"1/2"}, record)), choice{0, "5/4"})
	fails[choice](t, "Best of a loop with an error", api.ErrRange)(best(Loop{"-7", "1", "0", 0}, numbers{"1/2"}, record))
}

func TestRun(t *testing.T) {
	ones := filled(4, "1")
	same(t, "Run", sure[frames](t)(run(example(), ones)), frames{numbers{"1", "1/2", "1/4", "1/8"}, numbers{"0", "1/2", "3/4", "7/8"}})
	same(t, "Cost", sure[api.Rat](t)(loop.Cost(example(), ones)), "85/64")
	same(t, "Run with a delay", sure[frames](t)(run(delayed(), ones)), frames{numbers{"1", "1", "1/2", "0"}, numbers{"0", "0", "1/2", "1"}})
	same(t, "Run with a prediction", sure[frames](t)(run(Loop{"1/2", "1", "1/4", 0}, numbers{"1", "2", "2"})), frames{numbers{"1", "5/4", "9/16"}, numbers{"0", "3/4", "23/16"}})
	same(t, "Run with a delay and a prediction", sure[frames](t)(run(Loop{"1/2", "1/2", "1", 2}, numbers{"1", "0", "0", "0", "0"})), frames{numbers{"1", "0", "0", "-3/2", "1/4"}, numbers{"0", "0", "0", "3/2", "-1/4"}})
	same(t, "Run of an unstable loop", sure[frames](t)(run(Loop{"3", "1", "0", 0}, numbers{"1", "0", "0"})), frames{numbers{"1", "-3", "6"}, numbers{"0", "3", "-6"}})
	same(t, "Run of no frames", sure[frames](t)(run(example(), nil)), frames{})
	same(t, "Cost of no frames", sure[api.Rat](t)(loop.Cost(example(), nil)), "0")
	same(t, "Run of 64 frames", len(sure[frames](t)(run(example(), filled(64, "-2/3"))).residuals), 64)
}

func TestImpulse(t *testing.T) {
	same(t, "Impulse", sure[numbers](t)(loop.Impulse(example(), 3)), numbers{"1", "-1/2", "-1/4"})
	same(t, "Impulse of no frames", sure[numbers](t)(loop.Impulse(example(), 0)), nil)
	same(t, "Impulse of one frame", sure[numbers](t)(loop.Impulse(Loop{nines(600), "1", nines(600), 0}, 1)), numbers{"1"})
	same(t, "Impulse with a delay", sure[numbers](t)(loop.Impulse(delayed(), 6)), numbers{"1", "0", "-1/2", "-1/2", "-1/4", "0"})
	same(t, "Impulse of 64 frames", len(sure[numbers](t)(loop.Impulse(example(), 64))), 64)
}

// runOf returns the residuals and the commands by the definition.
func runOf(p plan, d values) (residuals, commands values) {
	command := new(big.Rat)
	at := func(k int) *big.Rat {
		if k < 0 {
			return new(big.Rat)
		}
		return residuals[k]
	}
	for k, x := range d {
		commands = append(commands, command)
		residuals = append(residuals, sub(x, command))
		late := at(k - p.delay)
		command = add(mul(p.leak, command), mul(p.gain, late))
		command = add(command, mul(p.prediction, sub(late, at(k-p.delay-1))))
	}
	return residuals, commands
}

func squares(list values) *big.Rat {
	sum := new(big.Rat)
	for _, x := range list {
		sum = add(sum, mul(x, x))
	}
	return sum
}

func TestRunsOfRandomLoops(t *testing.T) {
	several(t, 14, 200, func(r *rand.Rand) {
		p, d := randomPlan(r), randomValues(r, r.Intn(25))
		residuals, commands := runOf(p, d)
		got := sure[frames](t)(run(p.loop(), allFromBig(d)))
		same(t, "residuals", got.residuals, allFromBig(residuals))
		same(t, "commands", got.commands, allFromBig(commands))
		sameNumber(t, "Cost", squares(residuals))(loop.Cost(p.loop(), allFromBig(d)))
		impulse := zeros(r.Intn(25))
		if len(impulse) > 0 {
			impulse[0] = one()
		}
		residuals, _ = runOf(p, impulse)
		sameList(t, "Impulse", residuals)(loop.Impulse(p.loop(), len(impulse)))
	})
}

func TestLargeRuns(t *testing.T) {
	long := Loop{tenTo(300), "1", "0", 0}
	same(t, "Run at the limit", sure[frames](t)(run(long, numbers{"0", "9" + tenTo(299)[1:], "0"})).commands, numbers{"0", "0", "9" + tenTo(599)[1:]})
	fails[frames](t, "Run", api.ErrLarge)(run(long, numbers{"0", tenTo(300), "0"}))
	same(t, "Run with a last command that is not used", sure[frames](t)(run(long, numbers{"0", tenTo(300)})).residuals, numbers{"0", tenTo(300)})
	fails[frames](t, "Run with a long residual", api.ErrLarge)(run(Loop{"1", "0", "0", 0}, numbers{"1/" + nines(600), tenthTo(599)}))
	same(t, "Impulse at the limit", len(sure[numbers](t)(loop.Impulse(long, 3))[2]), 600)
	fails[numbers](t, "Impulse", api.ErrLarge)(loop.Impulse(long, 4))
	fails[numbers](t, "Impulse", api.ErrLarge)(loop.Impulse(Loop{"1/" + nines(600), "1/2", "0", 6}, 64))
	fails[api.Rat](t, "Cost", api.ErrLarge)(loop.Cost(example(), numbers{tenTo(300)}))
	same(t, "Cost at the limit", sure[api.Rat](t)(loop.Cost(example(), numbers{tenTo(299)})), tenTo(598))
	fails[api.Rat](t, "Cost", api.ErrLarge)(loop.Cost(example(), numbers{tenthTo(300)}))
	// Commands have 600 digits, and units on the way far more, but no residual.
	follows := numbers{"1", tenTo(599), tenTo(599), tenTo(599)}
	same(t, "Cost of long commands", sure[api.Rat](t)(loop.Cost(Loop{tenTo(599), "1", "0", 0}, follows)), "1")
	same(t, "Run with long commands", sure[frames](t)(run(Loop{tenTo(599), "1", "0", 0}, follows)), frames{numbers{"1", "0", "0", "0"}, append(numbers{"0"}, follows[1:]...)})
	idle := Loop{"0", "1/" + nines(600), "0", 6}
	same(t, "Cost without a gain", sure[api.Rat](t)(loop.Cost(idle, filled(64, "1/2"))), "16")
	same(t, "Run without a gain", sure[frames](t)(run(idle, filled(64, "1/2"))), frames{filled(64, "1/2"), filled(64, "0")})
}

func TestBest(t *testing.T) {
	same(t, "Best", sure[choice](t)(best(example(), numbers{"1", "5/2", "1/2"}, numbers{"1", "1"})), choice{0, "1"})
	same(t, "Best of unstable gains", sure[choice](t)(best(example(), numbers{"5/2", "0", "1/2", "3"}, numbers{"1", "1"})), choice{2, "5/4"})
	same(t, "Best of equal gains", sure[choice](t)(best(example(), numbers{"1/2", "1", "1", "1/2"}, numbers{"1", "1"})), choice{1, "1"})
	// Residuals 1, 1 - g and, with 1 - g squared, the gains 3/4 and 5/4 are equal.
	same(t, "Best of equal costs", sure[choice](t)(best(example(), numbers{"1/2", "5/4", "3/4"}, numbers{"1", "1"})), choice{1, "17/16"})
	same(t, "Best for no frames", sure[choice](t)(best(example(), numbers{"2", "1/2", "1"}, nil)), choice{1, "0"})
	same(t, "Best of 32 gains", sure[choice](t)(best(example(), append(filled(31, "1/3"), "1"), filled(64, "1"))), choice{31, "1"})
	same(t, "Best for a record of zeros", sure[choice](t)(best(delayed(), numbers{"1", "9/10", "1/2"}, filled(5, "0"))), choice{1, "0"})
	same(t, "Best keeps the leak, the prediction and the delay", sure[choice](t)(best(Loop{"0", "1/2", "1/4", 1}, numbers{"1/2"}, filled(4, "1"))), choice{0, "133/64"})
}

func TestBestOfRandomGains(t *testing.T) {
	found := 0
	several(t, 15, 150, func(r *rand.Rand) {
		p, d := randomPlan(r), randomValues(r, r.Intn(8))
		gains, want, least := values{}, -1, new(big.Rat)
		for i := range r.Intn(8) + 1 {
			p.gain = mul(part(r), big.NewRat(3, 2))
			gains = append(gains, p.gain)
			residuals, _ := runOf(p, d)
			cost := squares(residuals)
			if isStable(p.closed()) && (want < 0 || cost.Cmp(least) < 0) {
				want, least = i, cost
			}
		}
		p.gain = part(r)
		if want < 0 {
			fails[choice](t, "Best", api.ErrNone)(best(p.loop(), allFromBig(gains), allFromBig(d)))
			return
		}
		found++
		same(t, "Best", sure[choice](t)(best(p.loop(), allFromBig(gains), allFromBig(d))), choice{want, fromBig(least)})
	})
	if found < 80 {
		t.Errorf("only %d runs with a stable gain", found)
	}
}

func TestBestOfLongNumbers(t *testing.T) {
	// The other cost has more digits than a result may have.
	near := nines(599) + "/" + tenTo(599)
	same(t, "Best", sure[choice](t)(best(example(), numbers{near, "1"}, numbers{"1", "1"})), choice{1, "1"})
	same(t, "Best", sure[choice](t)(best(example(), numbers{"1", near}, numbers{"1", "1"})), choice{0, "1"})
	fails[choice](t, "Best", api.ErrLarge)(best(example(), numbers{"3/4", near}, numbers{"1", "1"}))
	fails[choice](t, "Best without a stable gain", api.ErrNone)(best(example(), numbers{nines(600)}, numbers{nines(600)}))
}
