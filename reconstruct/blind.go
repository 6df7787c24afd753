package reconstruct

import (
	"slices"

	"lenslet/api"
	"lenslet/linear"
	"lenslet/lists"
	"lenslet/rational"
)

// Rank returns the rank of a matrix.
func Rank(d [][]api.Rat) (int, api.Errno) {
	m, e := readInteraction(d)
	if e != api.OK {
		return 0, e
	}
	return len(linear.Eliminated(m).Pivots), api.OK
}

// Unseen returns the actuators that no slope sees.
func Unseen(d [][]api.Rat) ([]int, api.Errno) {
	m, e := readInteraction(d)
	if e != api.OK {
		return nil, e
	}
	var unseen []int
	for k, column := range m.columns() {
		if isZero(column) {
			unseen = append(unseen, k)
		}
	}
	return unseen, api.OK
}

// Blind returns the blind basis.
func Blind(d [][]api.Rat) ([][]api.Rat, api.Errno) {
	m, e := readInteraction(d)
	if e != api.OK {
		return nil, e
	}
	kernel := linear.KernelOf(m)
	return rational.WriteMatrix(len(kernel.Free), m.size()[1], kernel.At)
}

// Controlled returns the controlled basis.
func Controlled(d [][]api.Rat) ([][]api.Rat, api.Errno) {
	m, e := readInteraction(d)
	if e != api.OK {
		return nil, e
	}
	form := linear.Eliminated(m)
	return rational.WriteMatrix(len(form.Pivots), m.size()[1], form.At)
}

// blindProof is what shows that vectors are the blind basis.
type blindProof struct {
	vectors int
	blind   bool
	reduced bool
}

// CheckBlind returns OK for the blind basis.
func CheckBlind(d, basis [][]api.Rat) api.Errno {
	m, ed := readInteraction(d)
	vectors, eb := readBasis(basis, m.size())
	if e := lists.FirstError(ed, eb); e != api.OK {
		return e
	}
	// As many independent blind modes span all of them. The basis is not
	// computed: its numbers may be longer than those of the arguments.
	columns := m.size()[1]
	wanted := blindProof{columns - len(linear.Eliminated(m).Pivots), true, true}
	if vectors.proof(m) != wanted {
		return api.ErrProof
	}
	return api.OK
}

// readBasis returns the vectors of a basis, or its first error.
func readBasis(basis [][]api.Rat, s size) (matrix, api.Errno) {
	if len(basis) > api.MaxActuators {
		return nil, api.ErrMany
	}
	return lists.Checked(basis, s.readRow)
}

// proof returns what vectors show, as the blind basis of an interaction matrix.
func (m matrix) proof(d matrix) blindProof {
	seen := slices.ContainsFunc(m, func(vector []rational.Ratio) bool { return !isZero(d.times(vector)) })
	return blindProof{len(m), !seen, m.isReduced()}
}

// isReduced reports whether rows are in reduced echelon form.
func (m matrix) isReduced() bool {
	before := -1
	for i, row := range m {
		pivot := slices.IndexFunc(row, func(x rational.Ratio) bool { return x.Sign() != 0 })
		if pivot <= before {
			return false
		}
		column := m.column(pivot)
		column[i] = column[i].Sub(rational.One())
		if !isZero(column) {
			return false
		}
		before = pivot
	}
	return true
}

// Split returns the seen and the blind part of a command.
func Split(d [][]api.Rat, command []api.Rat) ([]api.Rat, []api.Rat, api.Errno) {
	m, ed := readInteraction(d)
	x, ec := m.size().readRow(command)
	if e := lists.FirstError(ed, ec); e != api.OK {
		return nil, nil, e
	}
	near := controlled(m, linear.Eliminated(m)).nearest(x)
	rest := slices.Clone(x)
	for k := range rest {
		rest[k] = rest[k].Sub(near[k])
	}
	seen, es := rational.WriteAll(near)
	blind, eb := rational.WriteAll(rest)
	if e := lists.FirstError(es, eb); e != api.OK {
		return nil, nil, e
	}
	return seen, blind, api.OK
}

// space is a space of commands: independent commands that span it, and what
// finds their coefficients.
type space struct {
	basis  matrix
	solver linear.Solver
}

// controlled returns the controlled space. Rows of the matrix span it with
// shorter numbers than the controlled basis.
func controlled(m matrix, form linear.Echelon) space {
	basis := matrix(lists.Mapped(form.Sources, m.row))
	if len(basis) == m.size()[1] {
		return space{basis: basis}
	}
	solver, _ := solverOf(basis, ones(m.size()[1]))
	return space{basis, solver}
}

// nearest returns the command of the space that is nearest to another one:
// its difference from it is orthogonal to the space. Each command is in a
// space with as many commands in its basis as there are actuators.
func (s space) nearest(command []rational.Ratio) []rational.Ratio {
	if len(s.basis) == len(command) {
		return command
	}
	coefficients := s.solver.Best(command)
	near := make([]rational.Ratio, len(command))
	for k := range near {
		near[k] = rational.Dot(s.basis.column(k), coefficients)
	}
	return near
}
