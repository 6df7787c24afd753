package loop_test

import (
	"math"
	"testing"

	"lenslet/api"
	"lenslet/loop"
)

// P1: every function terminates and does not panic, for all arguments. The
// rules on memory: arguments are not changed, and results share no memory.

func oddLoops() []Loop {
	list := []Loop{example(), delayed(), {nines(600), "1/" + nines(600), nines(600), 6}, {"1/" + nines(600), "1", "1/" + nines(599), 6}, {"1", "1", "1", math.MinInt}, {"\xff", "1", "1", math.MaxInt}}
	for _, bad := range badLoops() {
		list = append(list, bad.l)
	}
	return list
}

func oddIntegers() []int { return []int{math.MinInt, -1, 0, 1, 2, 3, 32, 64, math.MaxInt} }

func TestOddPolynomials(t *testing.T) {
	list := []numbers{{"1"}, {"0", "1"}, filled(13, nines(600)), append(filled(12, "1/"+nines(600)), "-1/"+nines(599)), make(numbers, 1000), {"\xff", "1"}}
	for _, bad := range badPolys() {
		list = append(list, bad.list)
	}
	for _, p := range list {
		loop.CheckPoly(p)
		loop.Stable(p)
		for _, a := range []api.Rat{"", "0", "1", "x", nines(600), "-1/" + nines(600)} {
			loop.Value(p, a)
			loop.Scaled(p, a)
		}
		for _, n := range oddIntegers() {
			loop.Radius(p, n)
			loop.Decay(p, min(n, 3))
			loop.Decay(p, max(n, 33))
		}
	}
	for _, p := range list {
		for _, q := range list {
			loop.Multiply(p, q)
		}
	}
}

func TestOddLoops(t *testing.T) {
	records := []numbers{nil, {""}, {"1", nines(600), "-1/" + nines(600)}, make(numbers, 1000), filled(64, "1/3")}
	for _, l := range oddLoops() {
		loop.CheckLoop(l)
		loop.Closed(l)
		loop.Steady(l)
		for _, n := range oddIntegers() {
			loop.Limit(l, n)
			loop.Margin(l, n)
			loop.Impulse(l, n)
			loop.Sweep(l, n)
			for _, turn := range []api.Rat{"", "1/0", "0", "1/7", nines(600), "1/" + nines(600)} {
				loop.Rejection(l, turn, n)
			}
		}
		for _, s := range []api.Span{{}, {Low: "1", High: "0"}, {Low: "-1", High: "1"}, {Low: "0", High: nines(600)}, {Low: "1/" + nines(600), High: "1/2"}} {
			loop.Certified(l, s)
		}
		for _, list := range records {
			run(l, list)
			loop.Cost(l, list)
			for _, gains := range records {
				best(l, gains, list)
			}
		}
		for _, list := range [][]complex128{nil, make([]complex128, 64), make([]complex128, 1000), {complex(math.NaN(), math.Inf(1))}, {complex(math.MaxFloat64, -math.MaxFloat64), complex(math.SmallestNonzeroFloat64, 0)}} {
			loop.CheckSweep(l, list)
		}
	}
}

func TestArgumentsAreNotChanged(t *testing.T) {
	p, q, record, gains := numbers{"-1/2", "1"}, numbers{"1/3", "1"}, numbers{"1", "2", "3"}, numbers{"1", "3/4"}
	list := []complex128{0, complex(1.2, 0.4)}
	sure[numbers](t)(loop.Multiply(p, q))
	sure[api.Rat](t)(loop.Value(p, "2"))
	sure[numbers](t)(loop.Scaled(p, "2"))
	sure[bool](t)(loop.Stable(p))
	sure[api.Span](t)(loop.Radius(p, 2))
	sure[api.Rat](t)(loop.Decay(p, 3))
	sure[frames](t)(run(example(), record))
	sure[api.Rat](t)(loop.Cost(example(), record))
	sure[choice](t)(best(example(), gains, record))
	same(t, "CheckSweep", loop.CheckSweep(example(), list), api.OK)
	same(t, "a polynomial", p, numbers{"-1/2", "1"})
	same(t, "another polynomial", q, numbers{"1/3", "1"})
	same(t, "a record", record, numbers{"1", "2", "3"})
	same(t, "gains", gains, numbers{"1", "3/4"})
	same(t, "complex numbers", list, []complex128{0, complex(1.2, 0.4)})
}

func TestResultsShareNoMemory(t *testing.T) {
	p, record := numbers{"-1/2", "1"}, numbers{"1", "2", "3"}
	clear(sure[numbers](t)(loop.Multiply(p, numbers{"1"})))
	clear(sure[numbers](t)(loop.Scaled(p, "1")))
	same(t, "a polynomial whose results are cleared", p, numbers{"-1/2", "1"})
	both := sure[frames](t)(run(Loop{"0", "1", "0", 0}, record))
	clear(both.residuals)
	same(t, "the commands whose residuals are cleared", both.commands, filled(3, "0"))
	same(t, "a record whose residuals are cleared", record, numbers{"1", "2", "3"})
	_ = append(both.residuals, "x", "x", "x")
	same(t, "the commands whose residuals are extended", both.commands, filled(3, "0"))
}
