package reconstruct_test

import (
	"math/big"
	"math/rand"
	"testing"

	"lenslet/api"
	"lenslet/reconstruct"
)

// P5.3: reconstructors.

func TestReconstructorOfExample(t *testing.T) {
	r := matrix{{"2/3", "1/3"}, {"-1/3", "1/3"}, {"-1/3", "-2/3"}}
	w := numbers{"1", "1"}
	same(t, "Reconstructor", sure[matrix](t)(reconstruct.Reconstructor(example(), w)), r)
	same(t, "CheckReconstructor", reconstruct.CheckReconstructor(example(), w, r), api.OK)
	same(t, "its command", sure[numbers](t)(reconstruct.Apply(r, numbers{"3", "0"})), numbers{"2", "-1", "-1"})
	same(t, "Modal", sure[matrix](t)(reconstruct.Modal(example(), w, matrix{{"1", "0", "-1"}})), matrix{{"1/2", "1/2"}})
	fails[matrix](t, "Modal of a blind mode", api.ErrSingular)(reconstruct.Modal(example(), w, matrix{{"1", "1", "1"}}))
}

func TestReconstructorOfOneActuator(t *testing.T) {
	d := matrix{{"1"}, {"2"}}
	same(t, "Reconstructor", sure[matrix](t)(reconstruct.Reconstructor(d, numbers{"1", "1"})), matrix{{"1/5", "2/5"}})
	same(t, "Reconstructor with weights", sure[matrix](t)(reconstruct.Reconstructor(d, numbers{"4", "1"})), matrix{{"1/2", "1/4"}})
	same(t, "Damped", sure[matrix](t)(reconstruct.Damped(d, numbers{"1", "1"}, "5")), matrix{{"1/10", "1/5"}})
	same(t, "Modal of a longer mode", sure[matrix](t)(reconstruct.Modal(d, numbers{"1", "1"}, matrix{{"-2"}})), matrix{{"-1/10", "-1/5"}})
	same(t, "CheckReconstructor", reconstruct.CheckReconstructor(d, numbers{"4", "1"}, matrix{{"1/2", "1/4"}}), api.OK)
	same(t, "CheckReconstructor of other weights", reconstruct.CheckReconstructor(d, numbers{"1", "1"}, matrix{{"1/2", "1/4"}}), api.ErrProof)
}

func TestReconstructorOfZeros(t *testing.T) {
	d, w := full(3, 2, "0"), numbers{"1", "2/3", "5"}
	zero := full(2, 3, "0")
	same(t, "Reconstructor", sure[matrix](t)(reconstruct.Reconstructor(d, w)), zero)
	same(t, "CheckReconstructor", reconstruct.CheckReconstructor(d, w, zero), api.OK)
	same(t, "CheckReconstructor of blind commands", reconstruct.CheckReconstructor(d, w, full(2, 3, "1")), api.ErrProof)
	same(t, "Damped", sure[matrix](t)(reconstruct.Damped(d, w, "1/7")), zero)
	fails[matrix](t, "Modal", api.ErrSingular)(reconstruct.Modal(d, w, matrix{{"1", "0"}}))
}

// equations returns the matrix D' W D with a load on the diagonal, and D' W.
func equations(d table, weights values, load *big.Rat) (table, table) {
	right := transposed(weighted(d, weights))
	left := product(right, d)
	for k := range left {
		left[k][k] = add(left[k][k], load)
	}
	return left, right
}

// expected returns the only matrix that is proved to be the reconstructor.
func expected(t *testing.T, d table, weights values) table {
	t.Helper()
	left, right := equations(d, weights, new(big.Rat))
	basis := blindBasis(d)
	return solution(t, append(left, basis...), append(right, zeros(len(basis), len(d))...))
}

func TestReconstructorByDefinition(t *testing.T) {
	sized(t, 3, 300, func(r *rand.Rand, rows, columns int) {
		m, w := randomInteraction(r, rows, columns), randomWeights(r, rows)
		d, weights := rowsFromBig(m), allFromBig(w)
		want := rowsFromBig(expected(t, m, w))
		same(t, "Reconstructor", sure[matrix](t)(reconstruct.Reconstructor(d, weights)), want)
		same(t, "CheckReconstructor", reconstruct.CheckReconstructor(d, weights, want), api.OK)
		k, i := r.Intn(columns), r.Intn(rows)
		want[k][i] = fromBig(add(asBig(t, want[k][i]), big.NewRat(1, 7)))
		same(t, "CheckReconstructor of another matrix", reconstruct.CheckReconstructor(d, weights, want), api.ErrProof)
	})
}

// TestCheckReconstructorNeedsBoth has matrices for which one of the two
// conditions of the proof holds alone.
func TestCheckReconstructorNeedsBoth(t *testing.T) {
	w := numbers{"1", "1"}
	for _, r := range []matrix{
		{{"1", "1"}, {"0", "1"}, {"0", "0"}},
		{{"2/3", "4/3"}, {"-1/3", "4/3"}, {"-1/3", "1/3"}},
		{{"1/3", "1/3"}, {"-1/3", "1/3"}, {"0", "-2/3"}},
		full(3, 2, "0"),
		{{"2/3", "1/3"}, {"-1/3", "1/3"}, {"-1/3", nines(600)}},
	} {
		same(t, "CheckReconstructor", reconstruct.CheckReconstructor(example(), w, r), api.ErrProof)
	}
}

func TestModalByDefinition(t *testing.T) {
	singular := 0
	sized(t, 4, 400, func(r *rand.Rand, rows, columns int) {
		m, w := randomInteraction(r, rows, columns), randomWeights(r, rows)
		modes := randomInteraction(r, r.Intn(columns)+1, columns)
		products := product(m, transposed(modes))
		got, e := reconstruct.Modal(rowsFromBig(m), allFromBig(w), rowsFromBig(modes))
		if _, pivots := echelon(products); len(pivots) < len(modes) {
			singular++
			fails[matrix](t, "Modal", api.ErrSingular)(got, e)
			return
		}
		left, right := equations(products, w, new(big.Rat))
		sameTable(t, "Modal", solution(t, left, right))(got, e)
	})
	if singular < 100 || singular > 350 {
		t.Errorf("%d of 400 modal reconstructors do not exist", singular)
	}
}

func TestDampedByDefinition(t *testing.T) {
	sized(t, 5, 300, func(r *rand.Rand, rows, columns int) {
		m, w, load := randomInteraction(r, rows, columns), randomWeights(r, rows), randomWeights(r, 1)[0]
		left, right := equations(m, w, load)
		sameTable(t, "Damped", solution(t, left, right))(reconstruct.Damped(rowsFromBig(m), allFromBig(w), fromBig(load)))
	})
}

// neighbours is a matrix of differences of actuators in a row, the first one
// after the last one, and one slope for each.
func neighbours(n int) matrix {
	d := full(n, n, "0")
	for i := range d {
		d[i][i], d[i][(i+1)%n] = "1", "-1"
	}
	return d
}

func TestReconstructorsOfTheGreatestSize(t *testing.T) {
	d := matrix{}
	for range 4 {
		d = append(d, neighbours(16)...)
	}
	w := numbers{}
	for i := range d {
		w = append(w, fromBig(big.NewRat(int64(i%5+1), int64(i%3+1))))
	}
	m, weights := rowsBig(t, d), allBig(t, w)
	same(t, "Blind", sure[matrix](t)(reconstruct.Blind(d)), full(1, 16, "1"))
	sameTable(t, "Reconstructor", expected(t, m, weights))(reconstruct.Reconstructor(d, w))
	left, right := equations(m, weights, big.NewRat(1, 9))
	sameTable(t, "Damped", solution(t, left, right))(reconstruct.Damped(d, w, "1/9"))
	r := rand.New(rand.NewSource(6))
	m = randomTable(r, 64, 16)
	sameTable(t, "Reconstructor of random slopes", expected(t, m, weights))(reconstruct.Reconstructor(rowsFromBig(m), w))
	modes := randomTable(r, 16, 16)
	left, right = equations(product(m, transposed(modes)), weights, new(big.Rat))
	sameTable(t, "Modal", solution(t, left, right))(reconstruct.Modal(rowsFromBig(m), w, rowsFromBig(modes)))
}

// TestWeightsThatDoNotMatter has as many independent columns as slopes, so that
// the weights, which are long, change nothing.
func TestWeightsThatDoNotMatter(t *testing.T) {
	d, w := full(16, 16, "1"), numbers{}
	for i := range d {
		d[i][i] = fromBig(big.NewRat(int64(i+2), 1))
		w = append(w, fromBig(div(asBig(t, nines(590)+api.Rat('1'+rune(i%9))), asBig(t, tenTo(590+i/9)))))
	}
	want := sure[matrix](t)(reconstruct.Reconstructor(d, filled(16, "1")))
	same(t, "Reconstructor", sure[matrix](t)(reconstruct.Reconstructor(d, w)), want)
	same(t, "CheckReconstructor", reconstruct.CheckReconstructor(d, w, want), api.OK)
	same(t, "Modal", sure[matrix](t)(reconstruct.Modal(d, w, rowsFromBig(identity(16, big.NewRat(1, 1))))), want)
	fails[matrix](t, "Modal of dependent modes", api.ErrSingular)(reconstruct.Modal(d, w, full(16, 16, "1")))
}

// withWeights calls the functions of a matrix and weights.
func withWeights(t *testing.T, d matrix, w numbers, e api.Errno) {
	t.Helper()
	bad := numbers{"x"}
	fails[matrix](t, "Reconstructor", e)(reconstruct.Reconstructor(d, w))
	fails[struct{}](t, "CheckReconstructor", e)(noResult(reconstruct.CheckReconstructor(d, w, nil)))
	fails[matrix](t, "Modal", e)(reconstruct.Modal(d, w, nil))
	fails[matrix](t, "Damped", e)(reconstruct.Damped(d, w, "-0"))
	fails[api.Rat](t, "Cost", e)(reconstruct.Cost(d, w, bad, bad))
	modes := full(1, len(d[0]), "0")
	fails[matrix](t, "Modal", e)(reconstruct.Modal(d, w, modes))
	fails[matrix](t, "Damped", e)(reconstruct.Damped(d, w, "1"))
	fails[struct{}](t, "CheckReconstructor", e)(noResult(reconstruct.CheckReconstructor(d, w, full(len(d[0]), len(d), "1"))))
}

func TestWeightsWithErrors(t *testing.T) {
	for _, bad := range badLists(2, badWeights()) {
		withWeights(t, example(), bad.list, bad.e)
	}
	withWeights(t, example(), numbers{"0", "x"}, api.ErrRange)
	withWeights(t, example(), numbers{"x", "0"}, api.ErrForm)
	withWeights(t, example(), numbers{"1", "1", "0"}, api.ErrShape)
	withWeights(t, full(3, 1, "1"), numbers{"1"}, api.ErrShape)
}

func TestReconstructorsWithErrors(t *testing.T) {
	d, w := example(), numbers{"1", "1"}
	for _, n := range []int{0, 2, 4, 100} {
		same(t, "CheckReconstructor of rows", reconstruct.CheckReconstructor(d, w, full(n, 2, "x")), api.ErrShape)
	}
	for _, bad := range badLists(2, badNumbers()) {
		good := numbers{"1", "1"}
		same(t, "CheckReconstructor", reconstruct.CheckReconstructor(d, w, matrix{good, good, bad.list}), bad.e)
		same(t, "CheckReconstructor", reconstruct.CheckReconstructor(d, w, matrix{good, bad.list, {"x"}}), bad.e)
	}
	for a, e := range badWeights() {
		fails[matrix](t, "Damped", e)(reconstruct.Damped(d, w, a))
	}
}

func TestModesWithErrors(t *testing.T) {
	d, w := example(), numbers{"1", "1"}
	fails[matrix](t, "Modal without modes", api.ErrEmpty)(reconstruct.Modal(d, w, nil))
	fails[matrix](t, "Modal with too many modes", api.ErrMany)(reconstruct.Modal(d, w, full(17, 3, "1")))
	fails[matrix](t, "Modal with too many bad modes", api.ErrMany)(reconstruct.Modal(d, w, make(matrix, 17)))
	fails[matrix](t, "Modal with the most modes", api.ErrSingular)(reconstruct.Modal(d, w, full(16, 3, "1")))
	fails[matrix](t, "Modal with a bad mode after a blind one", api.ErrForm)(reconstruct.Modal(d, w, matrix{{"1", "1", "1"}, {"1", "1", "x"}}))
	for _, bad := range badLists(3, badNumbers()) {
		fails[matrix](t, "Modal", bad.e)(reconstruct.Modal(d, w, matrix{bad.list}))
		fails[matrix](t, "Modal", bad.e)(reconstruct.Modal(d, w, matrix{{"1", "0", "0"}, bad.list, {"x"}}))
	}
	same(t, "Modal of modes without a common blind part", sure[matrix](t)(reconstruct.Modal(d, w, matrix{{"1", "0", "0"}, {"0", "0", "1"}})), matrix{{"1", "0"}, {"0", "-1"}})
}

func TestLargeReconstructors(t *testing.T) {
	huge, tiny := nines(600), "1/"+nines(600)
	one := numbers{"1"}
	same(t, "Reconstructor", sure[matrix](t)(reconstruct.Reconstructor(matrix{{huge}}, numbers{tiny})), matrix{{tiny}})
	fails[matrix](t, "Reconstructor of 601 digits", api.ErrLarge)(reconstruct.Reconstructor(matrix{{tiny, "0"}, {"0", "1"}, {"0", huge}}, filled(3, "1")))
	fails[matrix](t, "Reconstructor with one large number", api.ErrLarge)(reconstruct.Reconstructor(matrix{{"1", "0"}, {"0", "3"}, {"0", nines(301)}}, filled(3, "1")))
	same(t, "CheckReconstructor instead of a large one", reconstruct.CheckReconstructor(matrix{{"3"}, {nines(301)}}, numbers{"1", "1"}, full(1, 2, "0")), api.ErrProof)
	fails[matrix](t, "Damped of 601 digits", api.ErrLarge)(reconstruct.Damped(matrix{{"1"}}, one, huge))
	zeroDigits := tenTo(599)[1:]
	same(t, "Damped of 600 digits", sure[matrix](t)(reconstruct.Damped(matrix{{"1"}}, one, "8"+nines(599))), matrix{{"1/9" + zeroDigits}})
	fails[matrix](t, "Modal of 601 digits", api.ErrLarge)(reconstruct.Modal(matrix{{"10"}}, one, matrix{{tenTo(599)}}))
	same(t, "Modal of 600 digits", sure[matrix](t)(reconstruct.Modal(matrix{{"10"}}, one, matrix{{tenTo(598)}})), matrix{{"1/" + tenTo(599)}})
	// The weights and the numbers on the way are far longer than the results.
	d, w := matrix{{huge, "-" + huge, "0"}, {"0", tiny, "-" + tiny}}, numbers{huge, tiny}
	want := table{values{big.NewRat(2, 3), big.NewRat(1, 3)}, values{big.NewRat(-1, 3), big.NewRat(1, 3)}, values{big.NewRat(-1, 3), big.NewRat(-2, 3)}}
	for _, row := range want {
		row[0] = div(row[0], asBig(t, huge))
		row[1] = div(row[1], asBig(t, tiny))
	}
	fails[matrix](t, "Reconstructor with 601 digits", api.ErrLarge)(reconstruct.Reconstructor(d, w))
	d[0] = numbers{"30", "-30", "0"}
	for _, row := range want {
		row[0] = div(mul(row[0], asBig(t, huge)), big.NewRat(30, 1))
	}
	r := rowsFromBig(want)
	same(t, "Reconstructor of scaled rows", sure[matrix](t)(reconstruct.Reconstructor(d, w)), r)
	same(t, "CheckReconstructor of scaled rows", reconstruct.CheckReconstructor(d, w, r), api.OK)
	long, share := nines(599), "1/2"+nines(598)+"7"
	same(t, "Damped with long numbers", sure[matrix](t)(reconstruct.Damped(matrix{{long}, {"-" + long}}, numbers{"1/" + long, "1/" + long}, long)), matrix{{share, "-" + share}})
}
