package linear

import (
	"math/rand"
	"slices"
	"testing"

	"lenslet/api"
	"lenslet/rational"
)

type ratio = rational.Ratio

// list returns fractions.
func list(t *testing.T, numbers ...api.Rat) []ratio {
	t.Helper()
	all, e := rational.ReadAll(numbers)
	if e != api.OK {
		t.Fatalf("%v are no numbers: error %d", numbers, e)
	}
	return all
}

func equal(a, b []ratio) bool {
	return slices.EqualFunc(a, b, func(x, y ratio) bool { return x.Cmp(y) == 0 })
}

func whole(n int) ratio { return rational.Integer(rational.Whole(n)) }

func randomRows(r *rand.Rand, rows, columns int) [][]ratio {
	m := make([][]ratio, rows)
	for i := range m {
		for range columns {
			m[i] = append(m[i], rational.Fraction(rational.Whole(r.Intn(5)-2), rational.Whole(r.Intn(3)+1)))
		}
		// A row that depends on others.
		if i > 1 && r.Intn(3) == 0 {
			m[i] = combination([]ratio{whole(r.Intn(3)), whole(-2)}, m[:2], columns)
		}
	}
	return m
}

// combination returns the sum of factors times rows.
func combination(factors []ratio, rows [][]ratio, columns int) []ratio {
	sum := make([]ratio, columns)
	for i, row := range rows {
		for k, x := range row {
			sum[k] = sum[k].Add(x.Mul(factors[i]))
		}
	}
	return sum
}

// rowsOf returns the rows of a form.
func rowsOf(size, columns int, at func(i, j int) ratio) [][]ratio {
	rows := make([][]ratio, size)
	for i := range rows {
		for j := range columns {
			rows[i] = append(rows[i], at(i, j))
		}
	}
	return rows
}

// isReduced reports a form that is not a reduced echelon form.
func isReduced(t *testing.T, what string, rows [][]ratio, pivots []int) {
	t.Helper()
	if len(rows) != len(pivots) || !slices.IsSorted(pivots) {
		t.Errorf("%s: %d rows with the pivots %v", what, len(rows), pivots)
		return
	}
	for i, row := range rows {
		for j, x := range row[:pivots[i]+1] {
			if x.Cmp(whole(0)) != 0 && j < pivots[i] {
				t.Errorf("%s: row %d is not 0 before its pivot %d", what, i, pivots[i])
			}
		}
		for k, pivot := range pivots {
			if k == i && row[pivot].Cmp(whole(1)) != 0 || k != i && row[pivot].Sign() != 0 {
				t.Errorf("%s: row %d at the pivot %d is wrong", what, i, pivot)
			}
		}
	}
}

func TestEliminated(t *testing.T) {
	rows := [][]ratio{list(t, "0", "0", "0", "0"), list(t, "0", "2", "4", "0"), list(t, "0", "-1", "-2", "0"), list(t, "0", "1/3", "0", "1"), list(t, "0", "1", "1", "1")}
	e := Eliminated(rows)
	if !slices.Equal(e.Pivots, []int{1, 2, 3}) || !slices.Equal(e.Sources, []int{1, 3, 4}) {
		t.Errorf("pivots %v, sources %v", e.Pivots, e.Sources)
	}
	e = Eliminated(rows[:4])
	if !slices.Equal(e.Pivots, []int{1, 2}) || !slices.Equal(e.Sources, []int{1, 3}) {
		t.Errorf("pivots %v, sources %v", e.Pivots, e.Sources)
	}
	for i, want := range [][]ratio{list(t, "0", "1", "0", "3"), list(t, "0", "0", "1", "-3/2")} {
		if got := rowsOf(2, 4, e.At)[i]; !equal(got, want) {
			t.Errorf("row %d: got %v", i, got)
		}
	}
	none := Eliminated(nil)
	if len(none.Pivots) != 0 || len(none.Sources) != 0 || !none.Contains(list(t, "0", "0")) || none.Contains(list(t, "0", "1")) {
		t.Errorf("the form of no rows is %v", none)
	}
}

func TestEliminatedRowsByDefinition(t *testing.T) {
	r := rand.New(rand.NewSource(1))
	for range 500 {
		columns := r.Intn(5) + 1
		rows := randomRows(r, r.Intn(6)+1, columns)
		e := Eliminated(rows)
		form := rowsOf(len(e.Pivots), columns, e.At)
		isReduced(t, "Eliminated", form, e.Pivots)
		var sources [][]ratio
		for i, row := range rows {
			factors := make([]ratio, len(e.Pivots))
			for k, pivot := range e.Pivots {
				factors[k] = row[pivot]
			}
			if !equal(combination(factors, form, columns), row) || !e.Contains(row) {
				t.Fatalf("row %d of %v is not in the space", i, rows)
			}
			if before := Eliminated(sources); before.Contains(row) == slices.Contains(e.Sources, i) {
				t.Fatalf("row %d of %v is wrong among the sources %v", i, rows, e.Sources)
			}
			if slices.Contains(e.Sources, i) {
				sources = append(sources, row)
			}
		}
		other := combination([]ratio{whole(1)}, rows[:1], columns)
		k := r.Intn(columns)
		other[k] = other[k].Add(whole(1))
		unit := make([]ratio, columns)
		unit[k] = whole(1)
		if e.Contains(other) != e.Contains(unit) {
			t.Fatalf("a row is in the space of %v without its difference from another one", rows)
		}
		if len(e.Pivots) != len(sources) {
			t.Fatalf("%d pivots of %d independent rows", len(e.Pivots), len(sources))
		}
	}
}

func TestKernelOf(t *testing.T) {
	r := rand.New(rand.NewSource(2))
	for range 500 {
		columns := r.Intn(5) + 1
		rows := randomRows(r, r.Intn(6)+1, columns)
		k := KernelOf(rows)
		basis := rowsOf(len(k.Free), columns, k.At)
		isReduced(t, "KernelOf", basis, k.Free)
		if len(k.Free)+len(Eliminated(rows).Pivots) != columns {
			t.Fatalf("%d free columns of %v", len(k.Free), rows)
		}
		for _, row := range rows {
			for _, vector := range basis {
				if rational.Dot(row, vector).Sign() != 0 {
					t.Fatalf("%v is not in the kernel of %v", vector, rows)
				}
			}
		}
	}
}

// gradient returns half of the derivative of what a fit makes least, by one of
// the coefficients.
func gradient(columns [][]ratio, weights []ratio, damping ratio, coefficients, target []ratio, k int) ratio {
	sum := damping.Mul(coefficients[k])
	for i, x := range combination(coefficients, columns, len(target)) {
		sum = sum.Add(x.Sub(target[i]).Mul(weights[i]).Mul(columns[k][i]))
	}
	return sum
}

func TestFit(t *testing.T) {
	r := rand.New(rand.NewSource(3))
	for range 500 {
		size, length := r.Intn(4), r.Intn(5)+1
		columns, target := randomRows(r, size, length), randomRows(r, 1, length)[0]
		weights := make([]ratio, length)
		for i := range weights {
			weights[i] = rational.Fraction(rational.Whole(r.Intn(6)+1), rational.Whole(r.Intn(4)+1))
		}
		damping := rational.Fraction(rational.Whole(r.Intn(3)), rational.Whole(6))
		f := NewFit(columns, weights, damping)
		solver, single := f.Solver()
		if single != (damping.Sign() > 0 || len(Eliminated(columns).Pivots) == size) {
			t.Fatalf("Solver of %v with the damping %v: %t", columns, damping, single)
		}
		if !single {
			continue
		}
		best := solver.Best(target)
		for k := range best {
			if gradient(columns, weights, damping, best, target, k).Sign() != 0 {
				t.Fatalf("%v are not the best coefficients of %v for %v", best, columns, target)
			}
		}
		if len(best) != size || !f.IsBest(best, target) {
			t.Fatalf("%v are not the best of %d coefficients", best, size)
		}
		for k := range best {
			other := slices.Clone(best)
			other[k] = other[k].Add(whole(1))
			if f.IsBest(other, target) {
				t.Fatalf("%v are the best coefficients, and %v", best, other)
			}
		}
	}
}

// TestIsBestOfSeveral has dependent columns, so that different coefficients
// are the best ones.
func TestIsBestOfSeveral(t *testing.T) {
	f := NewFit([][]ratio{list(t, "1", "0"), list(t, "2", "0"), list(t, "0", "0")}, list(t, "1", "3/2"), ratio{})
	for _, best := range [][]ratio{list(t, "3", "0", "0"), list(t, "0", "3/2", "1/7"), list(t, "1", "1", "-5")} {
		if !f.IsBest(best, list(t, "3", "4")) {
			t.Errorf("%v are not the best coefficients", best)
		}
	}
	if f.IsBest(list(t, "1", "3/2", "0"), list(t, "3", "4")) {
		t.Errorf("wrong coefficients are the best ones")
	}
}
