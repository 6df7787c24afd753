package reconstruct_test

import (
	"math/big"
	"math/rand"
	"slices"
	"testing"

	"lenslet/api"
	"lenslet/reconstruct"
)

// P5.2: blind modes.

func TestBlindModesOfExample(t *testing.T) {
	d := example()
	same(t, "CheckInteraction", reconstruct.CheckInteraction(d), api.OK)
	same(t, "Rank", sure[int](t)(reconstruct.Rank(d)), 2)
	same(t, "Blind", sure[matrix](t)(reconstruct.Blind(d)), matrix{{"1", "1", "1"}})
	same(t, "CheckBlind", reconstruct.CheckBlind(d, matrix{{"1", "1", "1"}}), api.OK)
	same(t, "Controlled", sure[matrix](t)(reconstruct.Controlled(d)), matrix{{"1", "0", "-1"}, {"0", "1", "-1"}})
	same(t, "Split", sure[parts](t)(split(d, numbers{"3", "0", "0"})), parts{numbers{"2", "-1", "-1"}, numbers{"1", "1", "1"}})
	same(t, "Unseen", sure[[]int](t)(reconstruct.Unseen(d)), nil)
	same(t, "Unseen without the slope 0", sure[[]int](t)(reconstruct.Unseen(d[1:])), []int{0})
}

func TestBlindModesOfZeros(t *testing.T) {
	for _, d := range []matrix{full(1, 3, "0"), full(64, 3, "0")} {
		same(t, "Rank", sure[int](t)(reconstruct.Rank(d)), 0)
		same(t, "Unseen", sure[[]int](t)(reconstruct.Unseen(d)), []int{0, 1, 2})
		all := matrix{{"1", "0", "0"}, {"0", "1", "0"}, {"0", "0", "1"}}
		same(t, "Blind", sure[matrix](t)(reconstruct.Blind(d)), all)
		same(t, "CheckBlind", reconstruct.CheckBlind(d, all), api.OK)
		same(t, "Controlled", sure[matrix](t)(reconstruct.Controlled(d)), nil)
		same(t, "Split", sure[parts](t)(split(d, numbers{"1", "2", "-1/3"})), parts{numbers{"0", "0", "0"}, numbers{"1", "2", "-1/3"}})
	}
}

func TestBlindModesOfFullRank(t *testing.T) {
	d := matrix{{"0", "2"}, {"0", "4"}, {"-1/3", "1"}}
	same(t, "Rank", sure[int](t)(reconstruct.Rank(d)), 2)
	same(t, "Unseen", sure[[]int](t)(reconstruct.Unseen(d)), nil)
	same(t, "Blind", sure[matrix](t)(reconstruct.Blind(d)), nil)
	same(t, "CheckBlind", reconstruct.CheckBlind(d, nil), api.OK)
	same(t, "Controlled", sure[matrix](t)(reconstruct.Controlled(d)), matrix{{"1", "0"}, {"0", "1"}})
	same(t, "Split", sure[parts](t)(split(d, numbers{"1", "2"})), parts{numbers{"1", "2"}, numbers{"0", "0"}})
}

// TestBlindModesByDefinition compares with another way to eliminate.
func TestBlindModesByDefinition(t *testing.T) {
	sized(t, 2, 400, func(r *rand.Rand, rows, columns int) {
		m := randomInteraction(r, rows, columns)
		d := rowsFromBig(m)
		form, pivots := echelon(m)
		basis := blindBasis(m)
		same(t, "Rank", sure[int](t)(reconstruct.Rank(d)), len(pivots))
		same(t, "Controlled", sure[matrix](t)(reconstruct.Controlled(d)), rowsFromBig(form))
		same(t, "Blind", sure[matrix](t)(reconstruct.Blind(d)), rowsFromBig(basis))
		same(t, "CheckBlind", reconstruct.CheckBlind(d, rowsFromBig(basis)), api.OK)
		unseen := []int{}
		for k, column := range transposed(m) {
			if isZero(column) {
				unseen = append(unseen, k)
			}
		}
		same(t, "Unseen", sure[[]int](t)(reconstruct.Unseen(d)), unseen)
		command := randomValues(r, columns)
		// The seen part is orthogonal to the blind modes, and has the same slopes.
		right := append(zeros(len(basis), 1), product(m, transposed(table{command}))...)
		seen := transposed(solution(t, append(slices.Clone(basis), m...), right))[0]
		blind := values{}
		for k := range command {
			blind = append(blind, sub(command[k], seen[k]))
		}
		same(t, "Split", sure[parts](t)(split(d, allFromBig(command))), parts{allFromBig(seen), allFromBig(blind)})
	})
}

func TestCheckBlindOfOtherVectors(t *testing.T) {
	d := matrix{{"0", "1", "2", "0"}, {"0", "0", "0", "0"}}
	same(t, "Blind", sure[matrix](t)(reconstruct.Blind(d)), matrix{{"1", "0", "0", "0"}, {"0", "1", "-1/2", "0"}, {"0", "0", "0", "1"}})
	for _, basis := range []matrix{
		nil,
		{{"1", "0", "0", "0"}, {"0", "1", "-1/2", "0"}},
		{{"1", "0", "0", "0"}, {"0", "0", "0", "1"}, {"0", "1", "-1/2", "0"}},
		{{"1", "0", "0", "0"}, {"0", "2", "-1", "0"}, {"0", "0", "0", "1"}},
		{{"1", "0", "0", "0"}, {"0", "-1", "1/2", "0"}, {"0", "0", "0", "1"}},
		{{"1", "0", "0", "1"}, {"0", "1", "-1/2", "0"}, {"0", "0", "0", "1"}},
		{{"1", "1", "-1/2", "0"}, {"0", "1", "-1/2", "0"}, {"0", "0", "0", "1"}},
		{{"1", "0", "0", "0"}, {"0", "1", "-1/2", "-1"}, {"0", "0", "0", "1"}},
		{{"1", "0", "0", "0"}, {"0", "1", "0", "0"}, {"0", "0", "0", "1"}},
		{{"1", "0", "0", "0"}, {"0", "1", "-1/2", "0"}, {"0", "0", "0", "0"}},
		{{"1", "0", "0", "0"}, {"0", "1", "-1/2", "0"}, {"0", "0", "0", "1"}, {"0", "0", "0", "0"}},
		{{"1", "0", "0", "0"}, {"0", "1", "-1/2", "0"}, {"0", "1", "-1/2", "0"}},
		{{"1", "0", "0", "0"}, {"0", "1", "0", "0"}, {"0", "0", "1", "0"}, {"0", "0", "0", "1"}},
		full(16, 4, "0"),
	} {
		same(t, "CheckBlind", reconstruct.CheckBlind(d, basis), api.ErrProof)
	}
}

// withInteraction calls all functions with a matrix, and arguments that fit a
// matrix of rows and columns.
func withInteraction(t *testing.T, d matrix, e api.Errno, rows, columns int) {
	t.Helper()
	w, s, c := filled(rows, "1"), filled(rows, "1"), filled(columns, "1")
	withMatrix(t, d, e)
	fails[matrix](t, "Reconstructor", e)(reconstruct.Reconstructor(d, w))
	fails[struct{}](t, "CheckReconstructor", e)(noResult(reconstruct.CheckReconstructor(d, w, full(columns, rows, "1"))))
	fails[matrix](t, "Modal", e)(reconstruct.Modal(d, w, matrix{c}))
	fails[matrix](t, "Damped", e)(reconstruct.Damped(d, w, "1"))
	fails[numbers](t, "Residual", e)(reconstruct.Residual(d, s, c))
	fails[api.Rat](t, "Cost", e)(reconstruct.Cost(d, w, s, c))
	fails[parts](t, "Split", e)(split(d, c))
	fails[struct{}](t, "CheckBlind", e)(noResult(reconstruct.CheckBlind(d, matrix{c})))
}

// withMatrix calls the functions of a matrix alone, and all others with worse
// arguments beside it.
func withMatrix(t *testing.T, d matrix, e api.Errno) {
	t.Helper()
	fails[struct{}](t, "CheckInteraction", e)(noResult(reconstruct.CheckInteraction(d)))
	fails[int](t, "Rank", e)(reconstruct.Rank(d))
	fails[[]int](t, "Unseen", e)(reconstruct.Unseen(d))
	fails[matrix](t, "Blind", e)(reconstruct.Blind(d))
	fails[matrix](t, "Controlled", e)(reconstruct.Controlled(d))
	bad := numbers{"x", "1/1", "0"}
	fails[parts](t, "Split", e)(split(d, bad))
	fails[struct{}](t, "CheckBlind", e)(noResult(reconstruct.CheckBlind(d, make(matrix, 17))))
	fails[matrix](t, "Reconstructor", e)(reconstruct.Reconstructor(d, bad))
	fails[struct{}](t, "CheckReconstructor", e)(noResult(reconstruct.CheckReconstructor(d, bad, matrix{bad})))
	fails[matrix](t, "Modal", e)(reconstruct.Modal(d, bad, nil))
	fails[matrix](t, "Damped", e)(reconstruct.Damped(d, bad, "0"))
	fails[numbers](t, "Residual", e)(reconstruct.Residual(d, bad, bad))
	fails[api.Rat](t, "Cost", e)(reconstruct.Cost(d, bad, bad, bad))
	fails[matrix](t, "Dropped", e)(reconstruct.Dropped(d, []int{-1}))
}

func TestInteractionsWithErrors(t *testing.T) {
	for _, bad := range badMatrices(api.MaxActuators) {
		withMatrix(t, bad.m, bad.e)
		withInteraction(t, bad.m, bad.e, len(bad.m), 2)
	}
	same(t, "CheckInteraction of the greatest size", reconstruct.CheckInteraction(full(64, 16, "-1/"+nines(600))), api.OK)
	same(t, "CheckInteraction of the least size", reconstruct.CheckInteraction(matrix{{"0"}}), api.OK)
}

func TestSplitAndCheckBlindWithErrors(t *testing.T) {
	for _, bad := range badLists(3, badNumbers()) {
		fails[parts](t, "Split", bad.e)(split(example(), bad.list))
		same(t, "CheckBlind", reconstruct.CheckBlind(example(), matrix{bad.list}), bad.e)
		same(t, "CheckBlind, the second vector", reconstruct.CheckBlind(example(), matrix{{"1", "1", "1"}, bad.list}), bad.e)
	}
	same(t, "CheckBlind with the most vectors", reconstruct.CheckBlind(example(), full(16, 3, "1")), api.ErrProof)
	same(t, "CheckBlind with too many vectors", reconstruct.CheckBlind(example(), full(17, 3, "1")), api.ErrMany)
	same(t, "CheckBlind with too many bad vectors", reconstruct.CheckBlind(example(), make(matrix, 17)), api.ErrMany)
	same(t, "CheckBlind, the first bad vector", reconstruct.CheckBlind(example(), matrix{{"1", "1", "x"}, {"1"}}), api.ErrForm)
	same(t, "CheckBlind, the first bad vector", reconstruct.CheckBlind(example(), matrix{{"1"}, {"1", "1", "x"}}), api.ErrShape)
}

func TestLargeBlindModes(t *testing.T) {
	huge, tiny := nines(600), "1/"+nines(600)
	d := matrix{{tiny, huge}}
	same(t, "Rank", sure[int](t)(reconstruct.Rank(d)), 1)
	fails[matrix](t, "Controlled", api.ErrLarge)(reconstruct.Controlled(d))
	fails[matrix](t, "Blind", api.ErrLarge)(reconstruct.Blind(matrix{{huge, tiny}}))
	same(t, "CheckBlind of a basis that is too large", reconstruct.CheckBlind(matrix{{huge, tiny}}, matrix{{"1", "-1"}}), api.ErrProof)
	fails[parts](t, "Split", api.ErrLarge)(split(d, numbers{"1", "0"}))
	fails[parts](t, "Split into parts of 601 digits", api.ErrLarge)(split(matrix{{"1", "-1"}}, numbers{nines(600), "-" + tenTo(599)}))
	same(t, "Split of 0", sure[parts](t)(split(d, numbers{"0", "0"})), parts{numbers{"0", "0"}, numbers{"0", "0"}})
	// The numbers on the way are far longer than those of the results.
	rows := table{{big.NewRat(1, 1), big.NewRat(2, 1), big.NewRat(3, 1)}, {big.NewRat(0, 1), big.NewRat(1, 1), big.NewRat(-1, 1)}}
	scaled := weighted(rows, allBig(t, numbers{nines(599), tiny}))
	same(t, "Blind of scaled rows", sure[matrix](t)(reconstruct.Blind(rowsFromBig(scaled))), matrix{{"1", "-1/5", "-1/5"}})
	same(t, "Controlled of scaled rows", sure[matrix](t)(reconstruct.Controlled(rowsFromBig(scaled))), matrix{{"1", "0", "5"}, {"0", "1", "-1"}})
	same(t, "Split with scaled rows", sure[parts](t)(split(rowsFromBig(scaled), numbers{"27", "0", "0"})), parts{numbers{"2", "5", "5"}, numbers{"25", "-5", "-5"}})
}
