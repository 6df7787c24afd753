package linear

import (
	"slices"

	"lenslet/rational"
)

// Kernel is the reduced echelon form of the lists whose sums of products with
// each of some rows are 0. Free are the columns of its pivots, ascending.
type Kernel struct {
	Free []int
	// The form of the reversed rows has its pivots in the other columns, from
	// the last one on: beside its pivot, a row has numbers in free columns
	// before it alone. So the vector of a free column has its first number
	// there.
	reversed Echelon
	rowOf    map[int]int
	columns  int
}

// KernelOf returns the kernel of at least one row.
func KernelOf(rows [][]rational.Ratio) Kernel {
	reversed := make([][]rational.Ratio, len(rows))
	for i, row := range rows {
		reversed[i] = slices.Clone(row)
		slices.Reverse(reversed[i])
	}
	k := Kernel{reversed: Eliminated(reversed), rowOf: map[int]int{}, columns: len(rows[0])}
	for i, pivot := range k.reversed.Pivots {
		k.rowOf[k.mirrored(pivot)] = i
	}
	for column := range k.columns {
		if _, ok := k.rowOf[column]; !ok {
			k.Free = append(k.Free, column)
		}
	}
	return k
}

// At returns the number of a vector at a column.
func (k Kernel) At(i, column int) rational.Ratio {
	if row, ok := k.rowOf[column]; ok {
		return k.reversed.At(row, k.mirrored(k.Free[i])).Neg()
	}
	if column == k.Free[i] {
		return rational.One()
	}
	return rational.Ratio{}
}

// mirrored returns the column of the reversed rows for a column, or the other
// way round.
func (k Kernel) mirrored(column int) int { return k.columns - 1 - column }
