package reconstruct_test

import (
	"math/rand"
	"slices"
	"testing"

	"lenslet/api"
	"lenslet/reconstruct"
)

// P5.5 and P5: consequences.

// fitted is a matrix with weights, slopes and the least-squares command.
type fitted struct {
	m                    table
	d                    matrix
	weights, slopes, got numbers
	r                    matrix
}

// eachFit calls a function with random matrices, weights and slopes.
func eachFit(t *testing.T, seed int64, do func(r *rand.Rand, f fitted)) {
	t.Helper()
	sized(t, seed, 150, func(r *rand.Rand, rows, columns int) {
		m := randomInteraction(r, rows, columns)
		f := fitted{m: m, d: rowsFromBig(m), weights: allFromBig(randomWeights(r, rows)), slopes: allFromBig(randomValues(r, rows))}
		f.r = sure[matrix](t)(reconstruct.Reconstructor(f.d, f.weights))
		f.got = sure[numbers](t)(reconstruct.Apply(f.r, f.slopes))
		do(r, f)
	})
}

func (f fitted) cost(t *testing.T, command numbers) api.Rat {
	t.Helper()
	return sure[api.Rat](t)(reconstruct.Cost(f.d, f.weights, f.slopes, command))
}

// squares returns the sum of squares.
func squares(t *testing.T, list numbers) api.Rat {
	t.Helper()
	x := allBig(t, list)
	return fromBig(dot(x, x))
}

func compare(t *testing.T, a, b api.Rat) int {
	t.Helper()
	return asBig(t, a).Cmp(asBig(t, b))
}

func moved(t *testing.T, command, by numbers) numbers {
	t.Helper()
	sum := values{}
	for k, x := range allBig(t, command) {
		sum = append(sum, add(x, asBig(t, by[k])))
	}
	return allFromBig(sum)
}

func TestNoCommandIsBetter(t *testing.T) {
	equal := 0
	eachFit(t, 11, func(r *rand.Rand, f fitted) {
		steps := rowsFromBig(blindBasis(f.m))
		for range 6 {
			steps = append(steps, allFromBig(randomValues(r, len(f.d[0]))))
		}
		for _, step := range steps {
			other := moved(t, f.got, step)
			switch compare(t, f.cost(t, other), f.cost(t, f.got)) {
			case -1:
				t.Errorf("%v has a lesser cost than %v", other, f.got)
			case 0:
				equal++
				if !slices.Equal(other, f.got) && compare(t, squares(t, other), squares(t, f.got)) <= 0 {
					t.Errorf("%v is not longer than %v", other, f.got)
				}
			}
		}
	})
	if equal < 100 {
		t.Errorf("only %d commands with the same cost", equal)
	}
}

func TestResidualIsOrthogonal(t *testing.T) {
	eachFit(t, 12, func(r *rand.Rand, f fitted) {
		rest := allBig(t, sure[numbers](t)(reconstruct.Residual(f.d, f.slopes, f.got)))
		for _, column := range transposed(weighted(f.m, allBig(t, f.weights))) {
			if dot(column, rest).Sign() != 0 {
				t.Errorf("the residual %v is not orthogonal to %v", rest, column)
			}
		}
	})
}

func TestReconstructorOfSlopesOfCommand(t *testing.T) {
	eachFit(t, 13, func(r *rand.Rand, f fitted) {
		command := allFromBig(randomValues(r, len(f.d[0])))
		slopes := sure[numbers](t)(reconstruct.Apply(f.d, command))
		both := sure[parts](t)(split(f.d, command))
		same(t, "the reconstructor of slopes", sure[numbers](t)(reconstruct.Apply(f.r, slopes)), both.seen)
		same(t, "the slopes of the blind part", sure[numbers](t)(reconstruct.Apply(f.d, both.blind)), filled(len(f.d), "0"))
		same(t, "the sum of the parts", moved(t, both.seen, both.blind), command)
	})
}

func TestRankAndBlindModes(t *testing.T) {
	eachFit(t, 14, func(r *rand.Rand, f fitted) {
		basis := sure[matrix](t)(reconstruct.Blind(f.d))
		rank := sure[int](t)(reconstruct.Rank(f.d))
		same(t, "rank and blind modes", rank+len(basis), len(f.d[0]))
		same(t, "the controlled basis", len(sure[matrix](t)(reconstruct.Controlled(f.d))), rank)
		same(t, "CheckBlind", reconstruct.CheckBlind(f.d, basis), api.OK)
		for _, vector := range basis {
			same(t, "the slopes of a blind mode", sure[numbers](t)(reconstruct.Apply(f.d, vector)), filled(len(f.d), "0"))
		}
	})
}

func TestModalOfControlledBasis(t *testing.T) {
	eachFit(t, 15, func(r *rand.Rand, f fitted) {
		basis := sure[matrix](t)(reconstruct.Controlled(f.d))
		if len(basis) == 0 {
			return
		}
		modal := sure[matrix](t)(reconstruct.Modal(f.d, f.weights, basis))
		coefficients := sure[numbers](t)(reconstruct.Apply(modal, f.slopes))
		same(t, "the modal reconstructor, composed", sure[numbers](t)(reconstruct.Compose(basis, coefficients)), f.got)
	})
}

func TestDampedCommands(t *testing.T) {
	eachFit(t, 16, func(r *rand.Rand, f fitted) {
		damped := sure[matrix](t)(reconstruct.Damped(f.d, f.weights, fromBig(randomWeights(r, 1)[0])))
		command := sure[numbers](t)(reconstruct.Apply(damped, f.slopes))
		if compare(t, squares(t, command), squares(t, f.got)) > 0 {
			t.Errorf("the damped command %v is longer than %v", command, f.got)
		}
		if compare(t, f.cost(t, command), f.cost(t, f.got)) < 0 {
			t.Errorf("the damped command %v has a lesser cost than %v", command, f.got)
		}
		same(t, "the blind part of a damped command", sure[parts](t)(split(f.d, command)).blind, filled(len(command), "0"))
	})
}

func TestEqualPokes(t *testing.T) {
	sized(t, 17, 100, func(r *rand.Rand, slopes, actuators int) {
		var pokes []Poke
		for k := range actuators {
			pokes = append(pokes, Poke{k, fromBig(randomWeights(r, 1)[0]), allFromBig(randomValues(r, slopes))})
		}
		d := sure[matrix](t)(reconstruct.Interaction(pokes, slopes, actuators))
		for range 3 {
			for k := range r.Intn(actuators) + 1 {
				pokes = append(pokes, pokes[k])
			}
			same(t, "Scatter of equal pokes", sure[numbers](t)(reconstruct.Scatter(pokes, slopes, actuators)), filled(actuators, "0"))
			same(t, "Interaction of equal pokes", sure[matrix](t)(reconstruct.Interaction(pokes, slopes, actuators)), d)
		}
	})
}

// TestPokesOfMatrix has pokes of a mirror that the matrix describes.
func TestPokesOfMatrix(t *testing.T) {
	eachFit(t, 18, func(r *rand.Rand, f fitted) {
		var pokes []Poke
		for k := range f.d[0] {
			amount := allFromBig(randomWeights(r, 1))[0]
			command := filled(len(f.d[0]), "0")
			command[k] = amount
			pokes = append(pokes, Poke{k, amount, sure[numbers](t)(reconstruct.Apply(f.d, command))})
		}
		same(t, "the interaction matrix of its pokes", sure[matrix](t)(reconstruct.Interaction(pokes, len(f.d), len(f.d[0]))), f.d)
	})
}
