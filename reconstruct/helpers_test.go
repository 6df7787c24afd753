package reconstruct_test

import (
	"maps"
	"math/big"
	"math/rand"
	"reflect"
	"slices"
	"strings"
	"testing"

	"lenslet/api"
	"lenslet/number"
	"lenslet/reconstruct"
)

type (
	Poke    = reconstruct.Poke
	numbers = []api.Rat
	matrix  = [][]api.Rat
	// values and table are numbers and matrices of package big.
	values = []*big.Rat
	table  = []values
)

// same reports a result that differs from the expected one; a nil slice and
// an empty one are the same.
func same[T any](t *testing.T, what string, got, want T) {
	t.Helper()
	g, w := reflect.ValueOf(got), reflect.ValueOf(want)
	if g.Kind() == reflect.Slice && g.Len() == 0 && w.Len() == 0 {
		return
	}
	if !reflect.DeepEqual(got, want) {
		t.Errorf("%s: got %v, want %v", what, got, want)
	}
}

// fails reports a call that does not return an error beside a zero value.
func fails[T any](t *testing.T, what string, want api.Errno) func(T, api.Errno) {
	t.Helper()
	return func(got T, e api.Errno) {
		t.Helper()
		var zero T
		if e != want {
			t.Errorf("%s: got error %d, want %d", what, e, want)
		}
		same(t, what+" beside an error", got, zero)
	}
}

// sure returns a result that has no error.
func sure[T any](t *testing.T) func(T, api.Errno) T {
	t.Helper()
	return func(got T, e api.Errno) T {
		t.Helper()
		if e != api.OK {
			t.Fatalf("error %d", e)
		}
		return got
	}
}

// parts are the results of Split.
type parts struct{ seen, blind numbers }

func split(d matrix, command numbers) (parts, api.Errno) {
	seen, blind, e := reconstruct.Split(d, command)
	return parts{seen, blind}, e
}

// noResult makes the error of a check that of a function without a result.
func noResult(e api.Errno) (struct{}, api.Errno) { return struct{}{}, e }

func asBig(t *testing.T, a api.Rat) *big.Rat {
	t.Helper()
	if e := number.Check(a); e != api.OK {
		t.Fatalf("%q is no number: error %d", a, e)
	}
	x, ok := new(big.Rat).SetString(string(a))
	if !ok {
		t.Fatalf("%q is no number", a)
	}
	return x
}

func allBig(t *testing.T, list numbers) values {
	t.Helper()
	all := values{}
	for _, a := range list {
		all = append(all, asBig(t, a))
	}
	return all
}

func rowsBig(t *testing.T, m matrix) table {
	t.Helper()
	rows := table{}
	for _, row := range m {
		rows = append(rows, allBig(t, row))
	}
	return rows
}

func fromBig(x *big.Rat) api.Rat { return api.Rat(x.RatString()) }

func allFromBig(list values) numbers {
	all := numbers{}
	for _, x := range list {
		all = append(all, fromBig(x))
	}
	return all
}

func rowsFromBig(m table) matrix {
	rows := matrix{}
	for _, row := range m {
		rows = append(rows, allFromBig(row))
	}
	return rows
}

func add(x, y *big.Rat) *big.Rat { return new(big.Rat).Add(x, y) }

func sub(x, y *big.Rat) *big.Rat { return new(big.Rat).Sub(x, y) }

func mul(x, y *big.Rat) *big.Rat { return new(big.Rat).Mul(x, y) }

func div(x, y *big.Rat) *big.Rat { return new(big.Rat).Quo(x, y) }

func dot(x, y values) *big.Rat {
	sum := new(big.Rat)
	for i := range x {
		sum.Add(sum, mul(x[i], y[i]))
	}
	return sum
}

func transposed(m table) table {
	columns := make(table, len(m[0]))
	for k := range columns {
		for _, row := range m {
			columns[k] = append(columns[k], row[k])
		}
	}
	return columns
}

func product(a, b table) table {
	columns := transposed(b)
	rows := make(table, len(a))
	for i, row := range a {
		for _, column := range columns {
			rows[i] = append(rows[i], dot(row, column))
		}
	}
	return rows
}

// weighted returns the rows times weights.
func weighted(m table, weights values) table {
	rows := make(table, len(m))
	for i, row := range m {
		for _, x := range row {
			rows[i] = append(rows[i], mul(x, weights[i]))
		}
	}
	return rows
}

// identity has a number on the diagonal.
func identity(n int, x *big.Rat) table {
	rows := make(table, n)
	for i := range rows {
		for k := range n {
			if k == i {
				rows[i] = append(rows[i], x)
			} else {
				rows[i] = append(rows[i], new(big.Rat))
			}
		}
	}
	return rows
}

func isZero(list values) bool {
	return !slices.ContainsFunc(list, func(x *big.Rat) bool { return x.Sign() != 0 })
}

// echelon returns the reduced echelon form of rows, by Gauss and Jordan, and
// the columns of its pivots.
func echelon(rows table) (table, []int) {
	form := table{}
	for _, row := range rows {
		form = append(form, slices.Clone(row))
	}
	pivots := []int{}
	for column := 0; len(form) > 0 && column < len(form[0]); column++ {
		next := len(pivots)
		found := slices.IndexFunc(form[next:], func(row values) bool { return row[column].Sign() != 0 })
		if found < 0 {
			continue
		}
		form[next], form[next+found] = form[next+found], form[next]
		pivot := form[next][column]
		for k, x := range form[next] {
			form[next][k] = div(x, pivot)
		}
		for i, row := range form {
			multiple := row[column]
			for k := range row {
				if i != next {
					row[k] = sub(row[k], mul(multiple, form[next][k]))
				}
			}
		}
		pivots = append(pivots, column)
	}
	return form[:len(pivots)], pivots
}

// blindBasis returns the reduced echelon form of the kernel.
func blindBasis(d table) table {
	form, pivots := echelon(d)
	basis := table{}
	for column := range d[0] {
		if slices.Contains(pivots, column) {
			continue
		}
		vector := make(values, len(d[0]))
		for k := range vector {
			vector[k] = new(big.Rat)
		}
		vector[column].SetInt64(1)
		for i, pivot := range pivots {
			vector[pivot].Neg(form[i][column])
		}
		basis = append(basis, vector)
	}
	basis, _ = echelon(basis)
	return basis
}

// solution returns the matrix X whose product with the rows is the right side;
// it must be the only one.
func solution(t *testing.T, rows, right table) table {
	t.Helper()
	joined := table{}
	for i, row := range rows {
		joined = append(joined, append(slices.Clone(row), right[i]...))
	}
	n := len(rows[0])
	form, pivots := echelon(joined)
	if len(pivots) != n || pivots[n-1] != n-1 {
		t.Fatalf("the equations have not a single solution: pivots %v", pivots)
	}
	x := table{}
	for _, row := range form {
		x = append(x, row[n:])
	}
	return x
}

// zeros returns rows of zeros.
func zeros(rows, columns int) table {
	m := make(table, rows)
	for i := range m {
		for range columns {
			m[i] = append(m[i], new(big.Rat))
		}
	}
	return m
}

// isTooLarge reports whether a number has more digits than package api allows.
func isTooLarge(x *big.Rat) bool {
	return len(new(big.Int).Abs(x.Num()).String()) > api.MaxDigits || len(x.Denom().String()) > api.MaxDigits
}

// sameTable reports a matrix that differs from the expected one, which must be
// refused if one of its numbers is too large.
func sameTable(t *testing.T, what string, want table) func(matrix, api.Errno) {
	t.Helper()
	return func(got matrix, e api.Errno) {
		t.Helper()
		if slices.ContainsFunc(want, func(row values) bool { return slices.ContainsFunc(row, isTooLarge) }) {
			fails[matrix](t, what, api.ErrLarge)(got, e)
			return
		}
		if e != api.OK {
			t.Errorf("%s: error %d", what, e)
		}
		same(t, what, got, rowsFromBig(want))
	}
}

func nines(n int) api.Rat { return api.Rat(strings.Repeat("9", n)) }

// tenTo returns 10^n.
func tenTo(n int) api.Rat { return api.Rat("1" + strings.Repeat("0", n)) }

// badNumbers are strings with the errors of number.Check.
func badNumbers() map[api.Rat]api.Errno {
	return map[api.Rat]api.Errno{"": api.ErrForm, "x": api.ErrForm, "2/4": api.ErrForm, "1/0": api.ErrForm, "3/1": api.ErrForm, "-0": api.ErrForm, tenTo(600): api.ErrLarge, "1/" + tenTo(600): api.ErrLarge}
}

// badWeights are strings with the errors of numbers that must be above 0.
func badWeights() map[api.Rat]api.Errno {
	list := badNumbers()
	maps.Copy(list, map[api.Rat]api.Errno{"0": api.ErrRange, "-1": api.ErrRange, "-1/" + nines(600): api.ErrRange})
	return list
}

// example is the matrix D of the document's examples.
func example() matrix { return matrix{{"1", "-1", "0"}, {"0", "1", "-1"}} }

// filled returns a list of equal numbers.
func filled(n int, a api.Rat) numbers { return slices.Repeat(numbers{a}, n) }

// full returns a matrix of equal numbers.
func full(rows, columns int, a api.Rat) matrix {
	m := matrix{}
	for range rows {
		m = append(m, filled(columns, a))
	}
	return m
}

// badMatrix is a matrix with its error.
type badMatrix struct {
	m matrix
	e api.Errno
}

// badMatrices are matrices with their errors for at most 64 rows and so many
// columns.
func badMatrices(columns int) []badMatrix {
	list := []badMatrix{
		{nil, api.ErrEmpty}, {matrix{}, api.ErrEmpty}, {matrix{nil}, api.ErrEmpty}, {matrix{{}, {"1"}}, api.ErrEmpty}, {make(matrix, 65), api.ErrEmpty},
		{full(65, 1, "1"), api.ErrMany}, {full(65, 1, "x"), api.ErrMany}, {full(1, columns+1, "1"), api.ErrMany}, {full(1, columns+1, ""), api.ErrMany}, {append(full(1, columns+1, "x"), nil), api.ErrMany},
		{matrix{{"1", "2"}, {"1"}}, api.ErrShape}, {matrix{{"1"}, {"1", "2"}}, api.ErrShape}, {matrix{{"1"}, nil}, api.ErrShape}, {matrix{{"1"}, filled(columns+1, "1")}, api.ErrShape}, {matrix{{"1"}, {"x", "1"}, {"x"}}, api.ErrShape},
		{matrix{{"1", "x"}, {"1"}}, api.ErrForm}, {matrix{{"1"}, {"x"}, {tenTo(600)}}, api.ErrForm}, {matrix{{"1", tenTo(600)}, {"x", "x"}}, api.ErrLarge},
	}
	for a, e := range badNumbers() {
		list = append(list, badMatrix{matrix{{"1", "2"}, {"3", a}}, e})
	}
	return list
}

// badList is a list with its error.
type badList struct {
	list numbers
	e    api.Errno
}

// badLists are lists with their errors for n numbers, of which some are bad.
func badLists(n int, bad map[api.Rat]api.Errno) []badList {
	list := []badList{{filled(n+1, "1"), api.ErrShape}, {filled(n-1, "1"), api.ErrShape}, {filled(n+1, "x"), api.ErrShape}, {filled(1000, ""), api.ErrShape}}
	if n > 1 {
		list = append(list, badList{nil, api.ErrShape}, badList{append(numbers{"x"}, filled(n-1, tenTo(600))...), api.ErrForm}, badList{append(numbers{tenTo(600)}, filled(n-1, "x")...), api.ErrLarge})
	}
	for a, e := range bad {
		list = append(list, badList{append(filled(n-1, "1"), a), e})
	}
	return list
}

func randomRat(r *rand.Rand) *big.Rat { return big.NewRat(int64(r.Intn(9)-4), int64(r.Intn(3)+1)) }

func randomValues(r *rand.Rand, n int) values {
	list := make(values, n)
	for i := range list {
		list[i] = randomRat(r)
	}
	return list
}

func randomTable(r *rand.Rand, rows, columns int) table {
	m := make(table, rows)
	for i := range m {
		m[i] = randomValues(r, columns)
	}
	return m
}

// randomInteraction returns a matrix of any rank, often not the full one, and
// often with columns or rows of zeros.
func randomInteraction(r *rand.Rand, rows, columns int) table {
	rank := min(rows, columns)
	if r.Intn(2) == 0 {
		rank = r.Intn(rank + 1)
	}
	m := zeros(rows, columns)
	if rank > 0 {
		m = product(randomTable(r, rows, rank), randomTable(r, rank, columns))
	}
	for k := range columns {
		if r.Intn(8) == 0 {
			for i := range m {
				m[i][k] = new(big.Rat)
			}
		}
	}
	return m
}

// randomWeights returns numbers above 0.
func randomWeights(r *rand.Rand, n int) values {
	list := make(values, n)
	for i := range list {
		list[i] = big.NewRat(int64(r.Intn(5)+1), int64(r.Intn(3)+1))
	}
	return list
}

// sized calls a function with small random sizes of matrices.
func sized(t *testing.T, seed int64, times int, do func(r *rand.Rand, rows, columns int)) {
	t.Helper()
	r := rand.New(rand.NewSource(seed))
	for range times {
		do(r, r.Intn(6)+1, r.Intn(6)+1)
		if t.Failed() {
			return
		}
	}
}
