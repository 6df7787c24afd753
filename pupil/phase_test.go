package pupil_test

import (
	"math"
	"math/big"
	"math/rand"
	"slices"
	"strings"
	"testing"

	"lenslet/api"
	"lenslet/pupil"
)

// P2.5: phases.

// flat is the result of Flattened.
type flat struct {
	phase  vector
	piston api.Rat
}

func flattened(phase vector) (flat, api.Errno) {
	v, piston, e := pupil.Flattened(phase)
	return flat{v, piston}, e
}

type slopes = [2]api.Rat

func TestFlattened(t *testing.T) {
	huge := nines(600)
	for _, row := range []struct {
		phase vector
		want  flat
	}{
		{vector{"1", "2", "6"}, flat{vector{"-2", "-1", "3"}, "3"}},
		{vector{"1/2"}, flat{vector{"0"}, "1/2"}},
		{vector{"1", "2"}, flat{vector{"-1/2", "1/2"}, "3/2"}},
		{vector{"-1/3", "0", "1/3"}, flat{vector{"-1/3", "0", "1/3"}, "0"}},
		{vector{huge, huge, huge}, flat{zeros(3), huge}},
		{zeros(256), flat{zeros(256), "0"}},
	} {
		same(t, "Flattened", sure[flat](t)(flattened(row.phase)), row.want)
	}
	for _, row := range badPhases() {
		fails[flat](t, "Flattened", row.e)(flattened(row.phase))
	}
	for _, phase := range []vector{
		{"1/" + huge, "1/" + nines(599) + "8"}, {huge, "-" + huge, "-" + huge}, {huge, huge, "1"}, {"1/" + huge, "0"},
	} {
		fails[flat](t, "Flattened", api.ErrLarge)(flattened(phase))
	}
}

// badPhase is a phase with an error.
type badPhase struct {
	phase vector
	e     api.Errno
}

func badPhases() []badPhase {
	rows := []badPhase{
		{nil, api.ErrEmpty}, {vector{}, api.ErrEmpty}, {zeros(257), api.ErrMany}, {make(vector, 257), api.ErrMany},
		{vector{"1", "x", tenTo(600)}, api.ErrForm}, {vector{"1", tenTo(600), "x"}, api.ErrLarge},
	}
	for a, e := range badNumbers() {
		rows = append(rows, badPhase{vector{a}, e}, badPhase{vector{"1", "2", a}, e})
	}
	return rows
}

func TestVariance(t *testing.T) {
	// The square of 10^300 has 601 digits.
	long := tenTo(300)
	for _, row := range []struct {
		phase vector
		want  api.Rat
	}{
		{vector{"1", "2", "6"}, "14/3"}, {vector{"5/3"}, "0"}, {vector{"1", "2"}, "1/4"}, {vector{"-1", "1"}, "1"}, {vector{"1/2", "1/3", "1/6"}, "1/54"},
		{zeros(256), "0"}, {append(zeros(255), "16"), "255/256"},
		{vector{long, long}, "0"}, {vector{long, api.Rat("1" + strings.Repeat("0", 299) + "2")}, "1"},
		{slices.Repeat(vector{"1/" + nines(600)}, 3), "0"},
	} {
		same(t, "Variance", sure[api.Rat](t)(pupil.Variance(row.phase)), row.want)
	}
	for _, row := range badPhases() {
		fails[api.Rat](t, "Variance", row.e)(pupil.Variance(row.phase))
	}
	fails[api.Rat](t, "Variance", api.ErrLarge)(pupil.Variance(vector{long, "-" + long}))
	fails[api.Rat](t, "Variance", api.ErrLarge)(pupil.Variance(vector{"0", "1/" + long}))
}

func TestPhasesFromTheirDefinitions(t *testing.T) {
	r := rand.New(rand.NewSource(7))
	for range 100 {
		phase := randomVector(r, r.Intn(20)+1)
		share := big.NewRat(1, int64(len(phase)))
		piston, variance := new(big.Rat), new(big.Rat)
		for _, a := range phase {
			piston = add(piston, mul(asBig(t, a), share))
		}
		var rest vector
		for _, a := range phase {
			x := sub(asBig(t, a), piston)
			rest = append(rest, fromBig(x))
			variance = add(variance, mul(mul(x, x), share))
		}
		same(t, "Flattened", sure[flat](t)(flattened(phase)), flat{rest, fromBig(piston)})
		same(t, "Variance", sure[api.Rat](t)(pupil.Variance(phase)), fromBig(variance))
	}
}

func TestSlopes(t *testing.T) {
	p := small()
	f := Poly{{"9", 0, 0}, {"3", 1, 0}, {"-5", 0, 1}, {"2", 1, 1}}
	for _, row := range []struct {
		f      Poly
		corner [2]int
		side   int
		want   slopes
	}{
		{poly("1", 2, 0), [2]int{2, 0}, 2, slopes{"1", "0"}}, {poly("1", 0, 2), [2]int{2, 0}, 2, slopes{"0", "-1"}},
		{poly("1", 0, 2), [2]int{0, 2}, 2, slopes{"0", "1"}}, {poly("1", 2, 0), [2]int{0, 2}, 2, slopes{"-1", "0"}},
		{f, [2]int{0, 0}, 4, slopes{"3", "-5"}}, {f, [2]int{1, 0}, 1, slopes{"3/2", "-11/2"}}, {f, [2]int{3, 2}, 1, slopes{"7/2", "-7/2"}},
		{f, [2]int{1, 0}, 3, slopes{"9/4", "-17/4"}}, {nil, [2]int{0, 0}, 2, slopes{"0", "0"}},
		{poly("1/3", 3, 0), [2]int{0, 0}, 4, slopes{"5/16", "0"}}, {poly("1", 1, 2), [2]int{1, 2}, 2, slopes{"9/16", "0"}}, {poly("1", 1, 2), [2]int{2, 2}, 2, slopes{"5/16", "3/8"}},
		// The number of the derivative is too long, its value is not.
		{poly("4"+tenTo(599)[1:], 3, 0), [2]int{1, 0}, 1, slopes{"75" + tenTo(597)[1:], "0"}},
	} {
		same(t, "Slopes", sure[slopes](t)(pupil.Slopes(p, row.f, row.corner, row.side)), row.want)
	}
}

func TestSlopesErrors(t *testing.T) {
	p, f := small(), poly("1", 1, 1)
	bad := poly("x", 0, 0)
	for _, row := range []struct {
		p      pupil.Pupil
		f      Poly
		corner [2]int
		side   int
		e      api.Errno
	}{
		{p, f, [2]int{-1, 0}, 1, api.ErrRange}, {p, f, [2]int{0, -1}, 1, api.ErrRange}, {p, f, [2]int{4, 0}, 1, api.ErrRange}, {p, f, [2]int{0, 4}, 1, api.ErrRange},
		{p, f, [2]int{math.MinInt, 0}, 1, api.ErrRange}, {p, f, [2]int{0, math.MaxInt}, 1, api.ErrRange}, {p, f, [2]int{math.MaxInt, math.MinInt}, math.MinInt, api.ErrRange},
		{p, f, [2]int{0, 0}, 0, api.ErrRange}, {p, f, [2]int{0, 0}, -1, api.ErrRange}, {p, f, [2]int{0, 0}, math.MinInt, api.ErrRange},
		{p, f, [2]int{0, 0}, 5, api.ErrRange}, {p, f, [2]int{3, 0}, 2, api.ErrRange}, {p, f, [2]int{0, 3}, 2, api.ErrRange}, {p, f, [2]int{3, 3}, math.MaxInt, api.ErrRange}, {p, f, [2]int{1, 2}, 3, api.ErrRange},
		{p, f, [2]int{1, 1}, 2, api.ErrNone}, {p, f, [2]int{0, 0}, 1, api.ErrNone}, {empty(), f, [2]int{0, 0}, 2, api.ErrNone}, {empty(), f, [2]int{0, 0}, 3, api.ErrRange},
		{p, bad, [2]int{-1, 0}, 1, api.ErrForm}, {empty(), bad, [2]int{0, 0}, 2, api.ErrForm},
		{p, poly(nines(600), 9, 0), [2]int{0, 0}, 4, api.ErrLarge}, {p, poly("1/"+nines(600), 0, 2), [2]int{0, 1}, 1, api.ErrLarge}, {p, poly(nines(600), 9, 0), [2]int{0, 0}, 1, api.ErrNone},
	} {
		fails[slopes](t, "Slopes", row.e)(pupil.Slopes(row.p, row.f, row.corner, row.side))
	}
	for _, row := range badPupils() {
		fails[slopes](t, "Slopes", row.e)(pupil.Slopes(row.p, Poly{{}}, [2]int{-1, -1}, 0))
	}
	for _, row := range badPolys() {
		fails[slopes](t, "Slopes", row.e)(pupil.Slopes(p, row.f, [2]int{-1, -1}, 0))
	}
}

func TestSlopesFromTheirDefinition(t *testing.T) {
	r := rand.New(rand.NewSource(8))
	for range 60 {
		p, f := randomPupil(r), randomPoly(r, 4)
		side := r.Intn(p.Size) + 1
		corner := [2]int{r.Intn(p.Size - side + 1), r.Intn(p.Size - side + 1)}
		sumX, sumY, count := new(big.Rat), new(big.Rat), int64(0)
		cellList, placeList := sure[cells](t)(pupil.Cells(p)), sure[places](t)(pupil.Places(p))
		for i, cell := range cellList {
			column, row := cell[0]-corner[0], cell[1]-corner[1]
			if column < 0 || column >= side || row < 0 || row >= side {
				continue
			}
			x, y := asBig(t, placeList[i].X), asBig(t, placeList[i].Y)
			count++
			for _, term := range f {
				c := asBig(t, term.C)
				if term.I > 0 {
					sumX = add(sumX, mul(mul(c, big.NewRat(int64(term.I), 1)), mul(power(x, term.I-1), power(y, term.J))))
				}
				if term.J > 0 {
					sumY = add(sumY, mul(mul(c, big.NewRat(int64(term.J), 1)), mul(power(x, term.I), power(y, term.J-1))))
				}
			}
		}
		if count == 0 {
			fails[slopes](t, "Slopes", api.ErrNone)(pupil.Slopes(p, f, corner, side))
			continue
		}
		share := big.NewRat(1, count)
		same(t, "Slopes", sure[slopes](t)(pupil.Slopes(p, f, corner, side)), slopes{fromBig(mul(sumX, share)), fromBig(mul(sumY, share))})
	}
}
