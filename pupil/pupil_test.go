package pupil_test

import (
	"math"
	"math/big"
	"math/rand"
	"slices"
	"testing"

	"lenslet/api"
	"lenslet/pupil"
)

type (
	cells  = [][2]int
	mask   = [][]bool
	places = []api.Place
)

// P2.1: pupils.

// badPupil is a pupil with an error.
type badPupil struct {
	p pupil.Pupil
	e api.Errno
}

// badPupils are pupils whose first error is the one beside them.
func badPupils() []badPupil {
	rows := []badPupil{
		{pupil.Pupil{}, api.ErrRange},
		{pupil.Pupil{Size: 4, Outer: "0", Inner: "x"}, api.ErrRange},
		{pupil.Pupil{Size: 4, Outer: "-1", Inner: "-2"}, api.ErrRange},
		{pupil.Pupil{Size: 4, Outer: "x", Inner: "1/" + tenTo(600)}, api.ErrForm},
		{pupil.Pupil{Size: 4, Outer: tenTo(600), Inner: "x"}, api.ErrLarge},
		{pupil.Pupil{Size: 4, Outer: "1", Inner: "-1/9"}, api.ErrRange},
		{pupil.Pupil{Size: 4, Outer: "1", Inner: "1", Vanes: make([]pupil.Vane, 9)}, api.ErrRange},
		{pupil.Pupil{Size: 4, Outer: "1/3", Inner: "1/2"}, api.ErrRange},
		{pupil.Pupil{Size: 4, Outer: "1", Inner: "x", Vanes: make([]pupil.Vane, 9)}, api.ErrForm},
	}
	for _, size := range []int{math.MinInt, -4, 0, 1, 17, math.MaxInt} {
		rows = append(rows, badPupil{pupil.Pupil{Size: size, Outer: "x", Inner: "x"}, api.ErrRange})
	}
	for a, e := range badNumbers() {
		rows = append(rows, badPupil{pupil.Pupil{Size: 4, Outer: a, Inner: "2"}, e})
		rows = append(rows, badPupil{pupil.Pupil{Size: 4, Outer: "1", Inner: a, Vanes: make([]pupil.Vane, 1)}, e})
	}
	for _, row := range badVanes() {
		p := small()
		p.Vanes = row.vanes
		rows = append(rows, badPupil{p, row.e})
	}
	return rows
}

// badVaneList is a list of vanes with an error.
type badVaneList struct {
	vanes []pupil.Vane
	e     api.Errno
}

func badVanes() []badVaneList {
	good := pupil.Vane{A: 1, B: 0, H: 1, Half: "1"}
	rows := []badVaneList{{make([]pupil.Vane, 9), api.ErrMany}, {slices.Repeat([]pupil.Vane{good}, 9), api.ErrMany}}
	one := func(a, b, h int, half api.Rat, e api.Errno) {
		bad := pupil.Vane{A: a, B: b, H: h, Half: half}
		rows = append(rows, badVaneList{[]pupil.Vane{bad}, e}, badVaneList{[]pupil.Vane{good, good, bad}, e})
		rows = append(rows, badVaneList{[]pupil.Vane{bad, {}}, e}, badVaneList{[]pupil.Vane{bad, {H: 1, Half: "1"}}, e})
	}
	for _, n := range []int{math.MinInt, -10001, 10001, math.MaxInt, math.MaxInt / 2} {
		one(n, 0, 10000, "x", api.ErrRange)
		one(0, n, 10000, "x", api.ErrRange)
		one(0, 1, n, "x", api.ErrRange)
	}
	one(0, 0, 0, "1", api.ErrRange)
	one(1, 0, -1, "1", api.ErrRange)
	one(1, 1, 1, "x", api.ErrRule)
	one(3, 4, 6, "", api.ErrRule)
	one(0, 0, 1, "1", api.ErrRule)
	one(3, 4, 5, "0", api.ErrRange)
	one(3, 4, 5, "-1/2", api.ErrRange)
	for a, e := range badNumbers() {
		one(3, -4, 5, a, e)
	}
	return rows
}

func TestCheckPupil(t *testing.T) {
	longest := pupil.Vane{A: -2800, B: 9600, H: 10000, Half: nines(600)}
	for _, p := range []pupil.Pupil{
		small(), large(), empty(),
		{Size: 2, Outer: nines(600), Inner: "0"}, {Size: 16, Outer: "1/" + nines(600), Inner: "0"},
		{Size: 4, Outer: "1", Inner: "0", Vanes: slices.Repeat([]pupil.Vane{longest}, 8)},
		{Size: 4, Outer: "1", Inner: "999/1000", Vanes: []pupil.Vane{{A: 0, B: -10000, H: 10000, Half: "1/9"}, {A: 10000, B: 0, H: 10000, Half: "9"}}},
		{Size: 4, Outer: "1", Inner: "0", Vanes: []pupil.Vane{{A: -10000, B: 0, H: 10000, Half: "1"}, {A: 0, B: 10000, H: 10000, Half: "1"}, {A: 0, B: 1, H: 1, Half: "1"}}},
	} {
		same(t, "CheckPupil", pupil.CheckPupil(p), api.OK)
	}
	for _, row := range badPupils() {
		same(t, "CheckPupil", pupil.CheckPupil(row.p), row.e)
		fails[mask](t, "Mask", row.e)(pupil.Mask(row.p))
		fails[cells](t, "Cells", row.e)(pupil.Cells(row.p))
		fails[places](t, "Places", row.e)(pupil.Places(row.p))
	}
}

func TestSmallPupil(t *testing.T) {
	p := small()
	same(t, "Mask", sure[mask](t)(pupil.Mask(p)), mask{
		{false, true, true, false}, {true, false, false, true}, {true, false, false, true}, {false, true, true, false},
	})
	same(t, "Cells", sure[cells](t)(pupil.Cells(p)), cells{{1, 0}, {2, 0}, {0, 1}, {3, 1}, {0, 2}, {3, 2}, {1, 3}, {2, 3}})
	same(t, "Places", sure[places](t)(pupil.Places(p)), places{
		{X: "-1/4", Y: "-3/4"}, {X: "1/4", Y: "-3/4"}, {X: "-3/4", Y: "-1/4"}, {X: "3/4", Y: "-1/4"},
		{X: "-3/4", Y: "1/4"}, {X: "3/4", Y: "1/4"}, {X: "-1/4", Y: "3/4"}, {X: "1/4", Y: "3/4"},
	})
	p.Vanes = []pupil.Vane{{A: 1, B: 0, H: 1, Half: "1/3"}}
	without := cells{{1, 0}, {2, 0}, {0, 1}, {0, 2}, {1, 3}, {2, 3}}
	same(t, "Cells behind a vane", sure[cells](t)(pupil.Cells(p)), without)
	p.Vanes = append(p.Vanes, p.Vanes[0], p.Vanes[0])
	same(t, "Cells behind equal vanes", sure[cells](t)(pupil.Cells(p)), without)
	p.Vanes = append(p.Vanes, pupil.Vane{A: 0, B: 1, H: 1, Half: "1/3"})
	same(t, "Cells behind two vanes", sure[cells](t)(pupil.Cells(p)), cells{{1, 0}, {2, 0}, {0, 1}, {0, 2}})
}

func TestEmptyPupil(t *testing.T) {
	same(t, "Mask", sure[mask](t)(pupil.Mask(empty())), mask{{false, false}, {false, false}})
	same(t, "Cells", sure[cells](t)(pupil.Cells(empty())), nil)
	same(t, "Places", sure[places](t)(pupil.Places(empty())), nil)
}

// TestPupilEdges has centres exactly on the edges: on a grid of 5 cells they
// are at -4/5, -2/5, 0, 2/5 and 4/5.
func TestPupilEdges(t *testing.T) {
	count := func(p pupil.Pupil) int { return len(sure[cells](t)(pupil.Cells(p))) }
	grid := func(outer, inner api.Rat, vanes ...pupil.Vane) pupil.Pupil {
		return pupil.Pupil{Size: 5, Outer: outer, Inner: inner, Vanes: vanes}
	}
	justBelow := "3" + nines(598) + "/5" + tenTo(598)[1:]
	justAbove := "4" + tenTo(597)[1:] + "1/5" + tenTo(598)[1:]
	right := pupil.Vane{A: 1, B: 0, H: 1, Half: "2/5"}
	diagonal := pupil.Vane{A: 3, B: 4, H: 5, Half: "1/25"}
	for _, row := range []struct {
		what string
		p    pupil.Pupil
		want int
	}{
		{"all", grid("9", "0"), 25},
		{"a disc that ends at a centre", grid("4/5", "0"), 13},
		{"a disc that ends below a centre", grid(justBelow, "0"), 9},
		{"a hole that ends at a centre", grid("9", "4/5"), 16},
		{"a hole that ends above a centre", grid("9", justAbove), 12},
		{"the middle alone", grid("1/9", "0"), 1},
		{"the middle is not at the radius above 0", grid("1/9", "1/10"), 0},
		{"a vane covers the places aside of the origin, but not those at its edge", grid("9", "0", right), 22},
		{"a wider vane", grid("9", "0", pupil.Vane{A: 1, H: 1, Half: "41/100"}), 16},
		{"a vane to the left", grid("9", "0", pupil.Vane{A: -1, H: 1, Half: "2/5"}), 22},
		{"a narrow vane in a direction between", grid("9", "0", diagonal), 24},
	} {
		same(t, row.what, count(row.p), row.want)
	}
	left := sure[mask](t)(pupil.Mask(grid("9", "0", pupil.Vane{A: -1, H: 1, Half: "2/5"})))
	same(t, "a row with a vane to the left", left[2], []bool{false, false, false, true, true})
	down := sure[mask](t)(pupil.Mask(grid("9", "0", pupil.Vane{B: -1, H: 1, Half: "1/9"})))
	same(t, "a row above a vane", down[0], []bool{true, true, false, true, true})
	same(t, "a row beside a vane", down[3], []bool{true, true, true, true, true})
}

// inPupil decides from the definition whether a place is in a pupil.
func inPupil(t *testing.T, p pupil.Pupil, x, y *big.Rat) bool {
	t.Helper()
	inner, outer := asBig(t, p.Inner), asBig(t, p.Outer)
	distance := add(mul(x, x), mul(y, y))
	if distance.Cmp(mul(inner, inner)) < 0 || distance.Cmp(mul(outer, outer)) > 0 {
		return false
	}
	for _, v := range p.Vanes {
		a, b := big.NewRat(int64(v.A), int64(v.H)), big.NewRat(int64(v.B), int64(v.H))
		along := add(mul(x, a), mul(y, b))
		across := sub(mul(y, a), mul(x, b))
		if along.Sign() >= 0 && across.Abs(across).Cmp(asBig(t, v.Half)) < 0 {
			return false
		}
	}
	return true
}

func randomPupil(r *rand.Rand) pupil.Pupil {
	directions := [][3]int{{1, 0, 1}, {0, 1, 1}, {-7, 0, 7}, {0, -2, 2}, {3, 4, 5}, {-3, 4, 5}, {4, -3, 5}, {-5, -12, 13}, {-2800, 9600, 10000}}
	outer := int64(r.Intn(20) + 1)
	p := pupil.Pupil{Size: r.Intn(15) + 2, Outer: fromBig(big.NewRat(outer, 12)), Inner: fromBig(big.NewRat(r.Int63n(outer), 12))}
	for range r.Intn(4) {
		d := directions[r.Intn(len(directions))]
		p.Vanes = append(p.Vanes, pupil.Vane{A: d[0], B: d[1], H: d[2], Half: fromBig(big.NewRat(int64(r.Intn(5)+1), 16))})
	}
	return p
}

func TestCellsOfManyPupils(t *testing.T) {
	r := rand.New(rand.NewSource(1))
	for range 200 {
		p := randomPupil(r)
		wantMask, wantCells, wantPlaces := mask{}, cells{}, places{}
		for row := range p.Size {
			line := make([]bool, p.Size)
			for column := range p.Size {
				x, y := big.NewRat(int64(2*column+1-p.Size), int64(p.Size)), big.NewRat(int64(2*row+1-p.Size), int64(p.Size))
				if inPupil(t, p, x, y) {
					line[column] = true
					wantCells = append(wantCells, [2]int{column, row})
					wantPlaces = append(wantPlaces, api.Place{X: fromBig(x), Y: fromBig(y)})
				}
			}
			wantMask = append(wantMask, line)
		}
		same(t, "Mask", sure[mask](t)(pupil.Mask(p)), wantMask)
		same(t, "Cells", sure[cells](t)(pupil.Cells(p)), wantCells)
		same(t, "Places", sure[places](t)(pupil.Places(p)), wantPlaces)
	}
}
