package number

import (
	"math/big"
	"math/rand"
	"slices"
	"testing"

	"lenslet/api"
)

type matrix = [][]api.Rat

// P1.5: matrices.

// filled returns a matrix of equal numbers.
func filled(rows, columns int, a api.Rat) matrix {
	m := make(matrix, rows)
	for i := range m {
		m[i] = slices.Repeat([]api.Rat{a}, columns)
	}
	return m
}

func TestCheckMatrix(t *testing.T) {
	for _, row := range []struct {
		m matrix
		e api.Errno
	}{
		{matrix{{"1"}}, api.OK}, {filled(64, 64, "1/2"), api.OK},
		{nil, api.ErrEmpty}, {matrix{}, api.ErrEmpty}, {filled(65, 1, "1"), api.ErrMany}, {make(matrix, 65), api.ErrMany},
		{matrix{{}}, api.ErrEmpty}, {matrix{nil, {"1"}}, api.ErrEmpty}, {matrix{{"1"}, {}}, api.ErrEmpty},
		{filled(1, 65, "1"), api.ErrMany}, {filled(1, 65, "x"), api.ErrMany}, {matrix{{"1"}, slices.Repeat([]api.Rat{"x"}, 65)}, api.ErrMany},
		{matrix{{"1"}, {"1", "2"}}, api.ErrShape}, {matrix{{"1", "2"}, {"x"}}, api.ErrShape}, {matrix{{"1"}, {"x", "y"}}, api.ErrShape},
		{matrix{{"1", "2/4"}}, api.ErrForm}, {matrix{{"1", tenTo(600)}, {"x"}}, api.ErrLarge},
		{matrix{{"1", "x"}, {"1"}}, api.ErrForm}, {matrix{{tenTo(600), "x"}}, api.ErrLarge}, {matrix{{"1"}, {"-0"}}, api.ErrForm},
	} {
		same(t, "CheckMatrix", CheckMatrix(row.m), row.e)
		if row.e == api.OK {
			continue
		}
		fails[int](t, "Rank", row.e)(Rank(row.m))
		fails[matrix](t, "Kernel", row.e)(Kernel(row.m))
		fails[[]api.Rat](t, "Solve", row.e)(Solve(row.m, []api.Rat{"x"}))
		fails[matrix](t, "Multiply", row.e)(Multiply(row.m, matrix{{"x", "1/1"}}))
		fails[matrix](t, "Multiply", row.e)(Multiply(filled(2, 3, "1"), row.m))
	}
}

func TestMultiply(t *testing.T) {
	a, b := matrix{{"1", "2"}, {"3", "4"}}, matrix{{"0", "1"}, {"1", "0"}}
	same(t, "Multiply", sure[matrix](t)(Multiply(a, b)), matrix{{"2", "1"}, {"4", "3"}})
	row, column := matrix{{"1", "2", "3"}}, matrix{{"1"}, {"1/2"}, {"-1"}}
	same(t, "Multiply a row", sure[matrix](t)(Multiply(row, column)), matrix{{"-1"}})
	same(t, "Multiply a column", sure[matrix](t)(Multiply(column, row)), matrix{{"1", "2", "3"}, {"1/2", "1", "3/2"}, {"-1", "-2", "-3"}})
	same(t, "Multiply of the greatest size", sure[matrix](t)(Multiply(filled(64, 64, "1/2"), filled(64, 64, "3"))), filled(64, 64, "96"))
	fails[matrix](t, "Multiply", api.ErrShape)(Multiply(matrix{{"1"}}, a))
	fails[matrix](t, "Multiply", api.ErrShape)(Multiply(row, row))
	fails[matrix](t, "Multiply", api.ErrLarge)(Multiply(matrix{{"1", tenTo(300)}}, matrix{{"1"}, {tenTo(300)}}))
	huge := tenTo(599)
	same(t, "Multiply with large products", sure[matrix](t)(Multiply(matrix{{huge, huge}}, matrix{{"10"}, {"-10"}})), matrix{{"0"}})
}

func TestSolve(t *testing.T) {
	a := matrix{{"1", "2"}, {"3", "4"}}
	for _, row := range []struct {
		m    matrix
		b    []api.Rat
		want []api.Rat
	}{
		{a, []api.Rat{"5", "11"}, []api.Rat{"1", "2"}},
		{matrix{{"2"}, {"4"}}, []api.Rat{"1", "2"}, []api.Rat{"1/2"}},
		{matrix{{"0"}, {"4"}}, []api.Rat{"0", "2"}, []api.Rat{"1/2"}},
		{matrix{{"0", "-1/3"}, {"2/5", "0"}}, []api.Rat{"1", "1"}, []api.Rat{"5/2", "-3"}},
		{matrix{{"1", "1"}, {"1", "-1"}, {"2", "0"}}, []api.Rat{"0", "0", "0"}, []api.Rat{"0", "0"}},
		{matrix{{"1/" + nines(600)}}, []api.Rat{"1/" + nines(600)}, []api.Rat{"1"}},
	} {
		same(t, "Solve", sure[[]api.Rat](t)(Solve(row.m, row.b)), row.want)
	}
	for _, row := range []struct {
		m matrix
		b []api.Rat
		e api.Errno
	}{
		{a, []api.Rat{"1", "x", tenTo(600)}, api.ErrForm}, {a, []api.Rat{tenTo(600), "x"}, api.ErrLarge},
		{a, []api.Rat{"5"}, api.ErrShape}, {a, nil, api.ErrShape}, {a, []api.Rat{"1", "2", "3"}, api.ErrShape},
		{matrix{{"2"}, {"4"}}, []api.Rat{"1", "1"}, api.ErrSingular},
		{matrix{{"0"}}, []api.Rat{"0"}, api.ErrSingular}, {matrix{{"0"}}, []api.Rat{"1"}, api.ErrSingular},
		{matrix{{"1", "1"}}, []api.Rat{"1"}, api.ErrSingular}, {matrix{{"0", "1"}, {"0", "2"}}, []api.Rat{"1", "3"}, api.ErrSingular},
		{matrix{{"1", "2"}, {"2", "4"}}, []api.Rat{"1", "2"}, api.ErrSingular}, {matrix{{"1", "2"}, {"2", "4"}}, []api.Rat{"1", "3"}, api.ErrSingular},
		{matrix{{"1/10"}}, []api.Rat{tenTo(599)}, api.ErrLarge},
	} {
		fails[[]api.Rat](t, "Solve", row.e)(Solve(row.m, row.b))
	}
}

func TestKernel(t *testing.T) {
	for _, row := range []struct{ m, want matrix }{
		{matrix{{"1", "2", "3"}, {"2", "4", "6"}}, matrix{{"1", "0", "-1/3"}, {"0", "1", "-2/3"}}},
		{matrix{{"1", "2"}, {"3", "4"}}, nil},
		{matrix{{"0", "0"}}, matrix{{"1", "0"}, {"0", "1"}}},
		{matrix{{"0", "1", "0"}}, matrix{{"1", "0", "0"}, {"0", "0", "1"}}},
		{matrix{{"1", "-1", "0"}, {"0", "1", "-1"}}, matrix{{"1", "1", "1"}}},
		{matrix{{"1", "1", "0", "0"}}, matrix{{"1", "-1", "0", "0"}, {"0", "0", "1", "0"}, {"0", "0", "0", "1"}}},
		{matrix{{"1", "0"}, {"5", "0"}}, matrix{{"0", "1"}}},
		{matrix{{"0"}}, matrix{{"1"}}},
		{matrix{{"2/3"}}, nil},
	} {
		got := sure[matrix](t)(Kernel(row.m))
		same(t, "Kernel", got, row.want)
		same(t, "Rank", sure[int](t)(Rank(row.m)), len(row.m[0])-len(row.want))
	}
	fails[matrix](t, "Kernel", api.ErrLarge)(Kernel(matrix{{tenTo(300), "1/" + tenTo(300)}}))
	same(t, "Rank of large numbers", sure[int](t)(Rank(matrix{{tenTo(300), "1/" + tenTo(300)}})), 1)
}

func TestRank(t *testing.T) {
	identity := filled(64, 64, "0")
	for i := range identity {
		identity[i][63-i] = "1/7"
	}
	same(t, "Rank of the greatest size", sure[int](t)(Rank(identity)), 64)
	same(t, "Rank of equal rows", sure[int](t)(Rank(filled(64, 64, "3"))), 1)
	same(t, "Rank of zeros", sure[int](t)(Rank(filled(3, 2, "0"))), 0)
	same(t, "Rank", sure[int](t)(Rank(matrix{{"1", "2"}, {"3", "4"}, {"5", "6"}})), 2)
}

func TestArgumentsStayAsTheyAre(t *testing.T) {
	m, b := matrix{{"0", "1/2"}, {"3", "4"}}, []api.Rat{"1", "2"}
	before := matrix{slices.Clone(m[0]), slices.Clone(m[1])}
	roomy := append(make([]api.Rat, 0, 10), m[0]...)
	m[0] = roomy
	solution := sure[[]api.Rat](t)(Solve(m, b))
	sure[matrix](t)(Kernel(m))
	sure[int](t)(Rank(m))
	product := sure[matrix](t)(Multiply(m, m))
	product[0][0], solution[0] = "9", "9"
	same(t, "the matrix", m, before)
	same(t, "the right side", b, []api.Rat{"1", "2"})
	same(t, "the room behind a row", roomy[:3][2], "")
}

// P1.7: the consequences for matrices and permutations.

func randomMatrix(r *rand.Rand, rows, columns int) matrix {
	m := filled(rows, columns, "0")
	for i := range m {
		for j := range m[i] {
			if r.Intn(3) > 0 {
				m[i][j] = randomRat(r)
			}
		}
	}
	return m
}

// dependent returns a matrix whose rank is at most the given one.
func dependent(t *testing.T, r *rand.Rand, rows, columns, rank int) matrix {
	t.Helper()
	return sure[matrix](t)(Multiply(randomMatrix(r, rows, rank), randomMatrix(r, rank, columns)))
}

func TestProductsAreAssociative(t *testing.T) {
	r := rand.New(rand.NewSource(11))
	for range 100 {
		p, q := r.Intn(4)+1, r.Intn(4)+1
		a, b, c := randomMatrix(r, 3, p), randomMatrix(r, p, q), randomMatrix(r, q, 2)
		left := sure[matrix](t)(Multiply(sure[matrix](t)(Multiply(a, b)), c))
		right := sure[matrix](t)(Multiply(a, sure[matrix](t)(Multiply(b, c))))
		same(t, "a product of three matrices", left, right)
	}
}

func TestKernelsAreReducedAndWhole(t *testing.T) {
	r := rand.New(rand.NewSource(12))
	for range 300 {
		rows, columns := r.Intn(6)+1, r.Intn(6)+1
		m := dependent(t, r, rows, columns, r.Intn(4)+1)
		basis := sure[matrix](t)(Kernel(m))
		same(t, "rank and size of the basis", sure[int](t)(Rank(m))+len(basis), columns)
		last := -1
		for i, row := range basis {
			column := make(matrix, columns)
			for j := range column {
				column[j] = []api.Rat{row[j]}
			}
			same(t, "a row of the basis", sure[matrix](t)(Multiply(m, column)), filled(rows, 1, "0"))
			pivot := slices.IndexFunc(row, func(a api.Rat) bool { return a != "0" })
			if pivot <= last || row[pivot] != "1" {
				t.Errorf("the basis %v is not in echelon form", basis)
			}
			for k := range basis {
				if k != i && basis[k][pivot] != "0" {
					t.Errorf("the basis %v is not reduced", basis)
				}
			}
			last = pivot
		}
	}
}

func TestSolutionsAreFound(t *testing.T) {
	r := rand.New(rand.NewSource(13))
	for range 300 {
		rows, columns := r.Intn(6)+1, r.Intn(5)+1
		m := dependent(t, r, rows, columns, r.Intn(5)+1)
		x := randomMatrix(r, columns, 1)
		var b, want []api.Rat
		for _, row := range sure[matrix](t)(Multiply(m, x)) {
			b = append(b, row[0])
		}
		for _, row := range x {
			want = append(want, row[0])
		}
		if sure[int](t)(Rank(m)) == columns {
			same(t, "Solve", sure[[]api.Rat](t)(Solve(m, b)), want)
		} else {
			fails[[]api.Rat](t, "Solve", api.ErrSingular)(Solve(m, b))
		}
	}
}

func TestEliminationHasNoRemainders(t *testing.T) {
	r := rand.New(rand.NewSource(14))
	m := randomMatrix(r, 20, 20)
	x := randomMatrix(r, 20, 1)
	var b []api.Rat
	for _, row := range m {
		sum := new(big.Rat)
		for j, a := range row {
			sum.Add(sum, new(big.Rat).Mul(asBig(t, a), asBig(t, x[j][0])))
		}
		b = append(b, fromBig(sum))
	}
	for j, a := range sure[[]api.Rat](t)(Solve(m, b)) {
		same(t, "a solution", a, x[j][0])
	}
}

func TestPermutationsContainEachElement(t *testing.T) {
	for n := range api.MaxList + 1 {
		list := sure[[]int](t)(Draw(n*8388607+1, n))
		slices.Sort(list)
		same(t, "the sorted permutation", list, upTo(n))
	}
}
