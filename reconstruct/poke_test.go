package reconstruct_test

import (
	"math"
	"math/big"
	"math/rand"
	"testing"

	"lenslet/api"
	"lenslet/reconstruct"
)

// P5.1: calibration.

func TestInteractionOfExample(t *testing.T) {
	pokes := []Poke{{0, "2", numbers{"2", "4"}}, {0, "-1", numbers{"-3", "-2"}}}
	same(t, "Interaction", sure[matrix](t)(reconstruct.Interaction(pokes, 2, 1)), matrix{{"2"}, {"2"}})
	same(t, "Scatter", sure[numbers](t)(reconstruct.Scatter(pokes, 2, 1)), numbers{"2"})
}

func TestInteractionOfSeveralActuators(t *testing.T) {
	pokes := []Poke{{1, "1/2", numbers{"1", "0", "-1/3"}}, {0, "-3", numbers{"1", "0", "0"}}, {1, "1", numbers{"0", "0", "1/3"}}}
	same(t, "Interaction", sure[matrix](t)(reconstruct.Interaction(pokes, 3, 2)), matrix{{"-1/3", "1"}, {"0", "0"}, {"0", "-1/6"}})
	same(t, "Scatter", sure[numbers](t)(reconstruct.Scatter(pokes, 3, 2)), numbers{"0", "5/2"})
}

// TestInteractionByDefinition compares with the definition, in which the
// differences from the mean are squared one by one.
func TestInteractionByDefinition(t *testing.T) {
	sized(t, 1, 200, func(r *rand.Rand, slopes, actuators int) {
		var pokes []Poke
		responses := make([]table, actuators)
		for n := range actuators + r.Intn(12) {
			k, amount, list := n%actuators, randomWeights(r, 1)[0], randomValues(r, slopes)
			if r.Intn(2) == 0 {
				amount.Neg(amount)
			}
			pokes = append(pokes, Poke{k, fromBig(amount), allFromBig(list)})
			response := values{}
			for _, x := range list {
				response = append(response, div(x, amount))
			}
			responses[k] = append(responses[k], response)
		}
		r.Shuffle(len(pokes), func(i, j int) { pokes[i], pokes[j] = pokes[j], pokes[i] })
		means, scatters := make(table, slopes), make(values, actuators)
		for k, ofActuator := range responses {
			scatters[k] = new(big.Rat)
			for i, list := range transposed(ofActuator) {
				mean := new(big.Rat)
				for _, x := range list {
					mean = add(mean, div(x, big.NewRat(int64(len(list)), 1)))
				}
				for _, x := range list {
					scatters[k] = add(scatters[k], mul(sub(x, mean), sub(x, mean)))
				}
				means[i] = append(means[i], mean)
			}
		}
		same(t, "Interaction", sure[matrix](t)(reconstruct.Interaction(pokes, slopes, actuators)), rowsFromBig(means))
		same(t, "Scatter", sure[numbers](t)(reconstruct.Scatter(pokes, slopes, actuators)), allFromBig(scatters))
	})
}

// manyPokes returns n pokes of 16 actuators with 64 slopes.
func manyPokes(n int) []Poke {
	var pokes []Poke
	for i := range n {
		pokes = append(pokes, Poke{i % 16, "1/2", filled(64, "1/3")})
	}
	return pokes
}

func TestMostPokes(t *testing.T) {
	same(t, "Interaction of 256 pokes", sure[matrix](t)(reconstruct.Interaction(manyPokes(256), 64, 16)), full(64, 16, "2/3"))
	same(t, "Scatter of 256 pokes", sure[numbers](t)(reconstruct.Scatter(manyPokes(256), 64, 16)), filled(16, "0"))
}

// pokesFail reports if pokes do not have an error in both functions.
func pokesFail(t *testing.T, what string, e api.Errno, pokes []Poke, slopes, actuators int) {
	t.Helper()
	fails[matrix](t, "Interaction: "+what, e)(reconstruct.Interaction(pokes, slopes, actuators))
	fails[numbers](t, "Scatter: "+what, e)(reconstruct.Scatter(pokes, slopes, actuators))
}

func TestPokesWithErrors(t *testing.T) {
	good := Poke{0, "1", numbers{"1", "2"}}
	for _, n := range []int{math.MinInt, -1, 0, 65, math.MaxInt} {
		pokesFail(t, "slopes", api.ErrRange, []Poke{good}, n, 1)
		pokesFail(t, "slopes before pokes", api.ErrRange, make([]Poke, 257), n, 1)
	}
	for _, n := range []int{math.MinInt, -1, 0, 17, math.MaxInt} {
		pokesFail(t, "actuators", api.ErrRange, []Poke{good}, 2, n)
		pokesFail(t, "actuators before pokes", api.ErrRange, make([]Poke, 257), 2, n)
	}
	pokesFail(t, "too many", api.ErrMany, manyPokes(257), 64, 16)
	pokesFail(t, "too many bad ones", api.ErrMany, make([]Poke, 257), 2, 1)
	for _, k := range []int{math.MinInt, -1, 2, math.MaxInt} {
		pokesFail(t, "an actuator", api.ErrUnknown, []Poke{good, {k, "1", numbers{"1", "2"}}}, 2, 2)
		pokesFail(t, "an actuator before its amount", api.ErrUnknown, []Poke{{k, "x", nil}}, 2, 2)
		pokesFail(t, "an actuator before 0", api.ErrUnknown, []Poke{{k, "0", nil}}, 2, 2)
	}
	for a, e := range badNumbers() {
		pokesFail(t, "an amount", e, []Poke{good, {0, a, numbers{"1", "2"}}}, 2, 1)
		pokesFail(t, "an amount before slopes", e, []Poke{{0, a, nil}}, 2, 1)
		pokesFail(t, "a slope", e, []Poke{good, {0, "1", numbers{"1", a}}}, 2, 1)
	}
	pokesFail(t, "the amount 0", api.ErrZero, []Poke{{0, "0", numbers{"1", "2"}}}, 2, 1)
	pokesFail(t, "the amount 0 before slopes", api.ErrZero, []Poke{{0, "0", nil}}, 2, 1)
	for _, bad := range badLists(2, badNumbers()) {
		pokesFail(t, "slopes of a poke", bad.e, []Poke{good, {0, "1", bad.list}}, 2, 1)
	}
}

func TestPokesInTheirOrder(t *testing.T) {
	good, zero, unknown := Poke{0, "1", numbers{"1"}}, Poke{0, "0", numbers{"1"}}, Poke{9, "1", numbers{"1"}}
	pokesFail(t, "the first of two", api.ErrZero, []Poke{good, zero, unknown}, 1, 2)
	pokesFail(t, "the first of two", api.ErrUnknown, []Poke{good, unknown, zero}, 1, 2)
	pokesFail(t, "an actuator without pokes", api.ErrNone, []Poke{good}, 1, 2)
	pokesFail(t, "the first actuator without pokes", api.ErrNone, []Poke{{1, "1", numbers{"1"}}}, 1, 2)
	pokesFail(t, "no pokes", api.ErrNone, nil, 1, 1)
	pokesFail(t, "a poke before those that are missing", api.ErrZero, []Poke{zero}, 1, 2)
}

func TestLargeResponses(t *testing.T) {
	tiny := "1/" + nines(600)
	ratio := []Poke{{0, tiny, numbers{tiny}}}
	same(t, "Interaction", sure[matrix](t)(reconstruct.Interaction(ratio, 1, 1)), matrix{{"1"}})
	same(t, "Scatter", sure[numbers](t)(reconstruct.Scatter(ratio, 1, 1)), numbers{"0"})
	large := []Poke{{0, tiny, numbers{"0", nines(600)}}}
	fails[matrix](t, "Interaction with a large response", api.ErrLarge)(reconstruct.Interaction(large, 2, 1))
	same(t, "Scatter with a large response", sure[numbers](t)(reconstruct.Scatter(large, 2, 1)), numbers{"0"})
	// The responses have 1200 digits, their mean is 0.
	opposite := []Poke{{0, tiny, numbers{nines(600)}}, {0, tiny, numbers{"-" + nines(600)}}}
	same(t, "Interaction of opposite responses", sure[matrix](t)(reconstruct.Interaction(opposite, 1, 1)), matrix{{"0"}})
	fails[numbers](t, "Scatter of opposite responses", api.ErrLarge)(reconstruct.Scatter(opposite, 1, 1))
	wide := []Poke{{0, "1", numbers{tenTo(300)}}, {0, "1", numbers{"-" + tenTo(300)}}}
	fails[numbers](t, "Scatter of 601 digits", api.ErrLarge)(reconstruct.Scatter(wide, 1, 1))
	same(t, "Interaction of its pokes", sure[matrix](t)(reconstruct.Interaction(wide, 1, 1)), matrix{{"0"}})
	later := []Poke{{0, "1", numbers{"1"}}, {1, "1/10", numbers{tenTo(599)}}}
	fails[matrix](t, "Interaction with one large number", api.ErrLarge)(reconstruct.Interaction(later, 1, 2))
}
