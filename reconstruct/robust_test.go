package reconstruct_test

import (
	"math"
	"testing"

	"lenslet/api"
	"lenslet/reconstruct"
)

// P1: every function terminates and does not panic, for all arguments. The
// rules on memory: arguments are not changed, and results share no memory.

func oddMatrices() []matrix {
	list := []matrix{example(), full(2, 2, "0"), full(16, 16, "1/3"), full(64, 3, "-1"), make(matrix, 1000), {{"\xff", "1"}}, {{nines(600), "1/" + nines(600)}}}
	for _, bad := range badMatrices(api.MaxActuators) {
		list = append(list, bad.m)
	}
	return list
}

func TestOddArguments(t *testing.T) {
	odd := []numbers{nil, {""}, {"1"}, {"1", "2/4"}, {"1", "1"}, {"0", "0", "0"}, {"-1", "-1"}, make(numbers, 16), filled(64, "1"), {nines(600), "1/" + nines(600)}}
	for _, d := range oddMatrices() {
		reconstruct.CheckInteraction(d)
		reconstruct.Rank(d)
		reconstruct.Unseen(d)
		reconstruct.Blind(d)
		reconstruct.Controlled(d)
		for _, n := range []int{math.MinInt, -1, 0, 1, 63, math.MaxInt} {
			reconstruct.Dropped(d, []int{n})
			reconstruct.Dropped(d, []int{0, n, n})
		}
		for _, list := range odd {
			split(d, list)
			reconstruct.Reconstructor(d, list)
			reconstruct.Damped(d, list, "1/3")
			reconstruct.Apply(d, list)
			reconstruct.Compose(d, list)
			reconstruct.Noise(d, list)
			for _, other := range odd {
				reconstruct.Residual(d, list, other)
				reconstruct.Cost(d, list, list, other)
				reconstruct.Modal(d, list, matrix{other})
				reconstruct.CheckBlind(d, matrix{list, other})
			}
		}
	}
}

func TestOddPairsOfMatrices(t *testing.T) {
	for _, d := range oddMatrices() {
		for _, other := range oddMatrices() {
			reconstruct.CheckBlind(d, other)
			reconstruct.CheckReconstructor(d, numbers{"1", "1"}, other)
			reconstruct.Modal(d, numbers{"1", "1"}, other)
		}
	}
}

func TestOddPokes(t *testing.T) {
	for _, pokes := range [][]Poke{nil, make([]Poke, 1), make([]Poke, 1000), {{math.MinInt, "1", nil}}, {{math.MaxInt, "1", nil}}, {{0, "1/" + nines(600), filled(64, nines(600))}}} {
		for _, slopes := range []int{math.MinInt, 0, 1, 64, math.MaxInt} {
			for _, actuators := range []int{math.MinInt, 0, 1, 16, math.MaxInt} {
				reconstruct.Interaction(pokes, slopes, actuators)
				reconstruct.Scatter(pokes, slopes, actuators)
			}
		}
	}
}

func TestArgumentsAreNotChanged(t *testing.T) {
	d, w, s, c := example(), numbers{"1", "2"}, numbers{"3", "1/2"}, numbers{"1", "0", "-5"}
	r := sure[matrix](t)(reconstruct.Reconstructor(d, w))
	before := rowsFromBig(rowsBig(t, r))
	basis, dropped := matrix{{"1", "1", "1"}}, []int{1}
	pokes := []Poke{{0, "2", numbers{"2", "4"}}, {0, "-1", numbers{"-3", "-2"}}}
	same(t, "CheckReconstructor", reconstruct.CheckReconstructor(d, w, r), api.OK)
	same(t, "CheckBlind", reconstruct.CheckBlind(d, basis), api.OK)
	sure[matrix](t)(reconstruct.Blind(d))
	sure[matrix](t)(reconstruct.Controlled(d))
	sure[parts](t)(split(d, c))
	sure[matrix](t)(reconstruct.Modal(d, w, matrix{c}))
	sure[matrix](t)(reconstruct.Damped(d, w, "1"))
	sure[numbers](t)(reconstruct.Compose(d, s))
	sure[api.Rat](t)(reconstruct.Cost(d, w, s, c))
	sure[numbers](t)(reconstruct.Noise(d, numbers{"1", "2", "3"}))
	sure[matrix](t)(reconstruct.Dropped(d, dropped))
	sure[matrix](t)(reconstruct.Interaction(pokes, 2, 1))
	sure[numbers](t)(reconstruct.Scatter(pokes, 2, 1))
	same(t, "a matrix", d, example())
	same(t, "weights", w, numbers{"1", "2"})
	same(t, "slopes", s, numbers{"3", "1/2"})
	same(t, "a command", c, numbers{"1", "0", "-5"})
	same(t, "a reconstructor", r, before)
	same(t, "a basis", basis, matrix{{"1", "1", "1"}})
	same(t, "dropped slopes", dropped, []int{1})
	same(t, "pokes", pokes, []Poke{{0, "2", numbers{"2", "4"}}, {0, "-1", numbers{"-3", "-2"}}})
}

// sharesNoRow reports a matrix whose rows share memory with each other.
func sharesNoRow(t *testing.T, what string, m matrix) {
	t.Helper()
	for i := range m {
		rest := rowsFromBig(rowsBig(t, m[i+1:]))
		_ = append(m[i], "x", "x", "x")
		clear(m[i])
		same(t, what+" whose first row is cleared", m[i+1:], rest)
	}
}

func TestResultsShareNoMemory(t *testing.T) {
	d, w, c := example(), numbers{"1", "2"}, numbers{"1", "0", "-5"}
	all := matrix{{"1", "0"}, {"0", "1"}}
	sharesNoRow(t, "Dropped", sure[matrix](t)(reconstruct.Dropped(d, nil)))
	sharesNoRow(t, "Controlled", sure[matrix](t)(reconstruct.Controlled(d)))
	sharesNoRow(t, "Blind", sure[matrix](t)(reconstruct.Blind(full(1, 3, "0"))))
	sharesNoRow(t, "Reconstructor", sure[matrix](t)(reconstruct.Reconstructor(d, w)))
	sharesNoRow(t, "Modal", sure[matrix](t)(reconstruct.Modal(all, w, all)))
	sharesNoRow(t, "Damped", sure[matrix](t)(reconstruct.Damped(d, w, "1")))
	sharesNoRow(t, "Interaction", sure[matrix](t)(reconstruct.Interaction([]Poke{{0, "1", c}}, 3, 1)))
	same(t, "a matrix whose results are cleared", d, example())
	same(t, "modes whose results are cleared", all, matrix{{"1", "0"}, {"0", "1"}})
	for _, m := range []matrix{d, all} {
		both := sure[parts](t)(split(m, c[:len(m[0])]))
		blind := allFromBig(allBig(t, both.blind))
		clear(both.seen)
		same(t, "the blind part whose seen part is cleared", both.blind, blind)
		clear(both.blind)
		same(t, "a command whose parts are cleared", c, numbers{"1", "0", "-5"})
	}
}
