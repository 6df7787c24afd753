package pupil_test

import (
	"math/rand"
	"slices"
	"testing"

	"lenslet/api"
	"lenslet/pupil"
)

// P2.4: bases.

// expansion is the result of Expand.
type expansion struct {
	coefficients vector
	residual     vector
}

func expand(b basis, phase vector) (expansion, api.Errno) {
	c, r, e := pupil.Expand(b, phase)
	return expansion{c, r}, e
}

func TestSampled(t *testing.T) {
	p := small()
	f := Poly{{"2", 0, 0}, {"4", 1, 0}}
	same(t, "Sampled", sure[vector](t)(pupil.Sampled(p, f)), vector{"1", "3", "-1", "5", "-1", "5", "1", "3"})
	same(t, "Sampled", sure[vector](t)(pupil.Sampled(p, poly("1", 1, 2))), vector{"-9/64", "9/64", "-3/64", "3/64", "-3/64", "3/64", "-9/64", "9/64"})
	same(t, "Sampled of 0", sure[vector](t)(pupil.Sampled(p, nil)), zeros(8))
	whole := pupil.Pupil{Size: 16, Outer: "2", Inner: "0"}
	same(t, "Sampled on a full grid", sure[vector](t)(pupil.Sampled(whole, poly("1/3", 0, 0))), slices.Repeat(vector{"1/3"}, 256))
	huge := Poly{{tenTo(599), 0, 0}, {"-" + tenTo(599), 1, 0}}
	fails[vector](t, "Sampled", api.ErrLarge)(pupil.Sampled(p, poly("1/"+nines(600), 1, 0)))
	same(t, "Sampled with large numbers on the way", sure[vector](t)(pupil.Sampled(p, huge))[0], "125"+tenTo(597)[1:])
	fails[vector](t, "Sampled", api.ErrLarge)(pupil.Sampled(p, Poly{{nines(600), 0, 0}, {"-" + nines(600), 1, 0}}))
	fails[vector](t, "Sampled", api.ErrNone)(pupil.Sampled(empty(), f))
	fails[vector](t, "Sampled", api.ErrZero)(pupil.Sampled(empty(), poly("0", 0, 0)))
	for _, row := range badPupils() {
		fails[vector](t, "Sampled", row.e)(pupil.Sampled(row.p, Poly{{}}))
	}
	for _, row := range badPolys() {
		fails[vector](t, "Sampled", row.e)(pupil.Sampled(p, row.f))
	}
}

func TestSampledAtPlaces(t *testing.T) {
	r := rand.New(rand.NewSource(6))
	for range 40 {
		p, f := randomPupil(r), randomPoly(r, 5)
		var want vector
		for _, at := range sure[places](t)(pupil.Places(p)) {
			want = append(want, fromBig(valueAt(t, f, asBig(t, at.X), asBig(t, at.Y))))
		}
		if len(want) == 0 {
			fails[vector](t, "Sampled", api.ErrNone)(pupil.Sampled(p, f))
		} else {
			same(t, "Sampled", sure[vector](t)(pupil.Sampled(p, f)), want)
		}
	}
}

func TestBasis(t *testing.T) {
	p := small()
	one, x := poly("1", 0, 0), poly("1", 1, 0)
	ones, tilt := slices.Repeat(vector{"1"}, 8), vector{"-1/4", "1/4", "-3/4", "3/4", "-3/4", "3/4", "-1/4", "1/4"}
	same(t, "Basis", sure[basis](t)(pupil.Basis(p, []Poly{one, x})), basis{ones, tilt})
	same(t, "Basis of a sum", sure[basis](t)(pupil.Basis(p, []Poly{one, {{"5", 0, 0}, {"1", 1, 0}}})), basis{ones, tilt})
	same(t, "Basis in another order", sure[basis](t)(pupil.Basis(p, []Poly{x, {{"1", 0, 0}, {"2", 1, 0}}})), basis{tilt, ones})
	astigmatism := vector{"-1/4", "-1/4", "1/4", "1/4", "1/4", "1/4", "-1/4", "-1/4"}
	same(t, "Basis of a square", sure[basis](t)(pupil.Basis(p, []Poly{one, poly("1", 2, 0)})), basis{ones, astigmatism})
	same(t, "Basis of one mode", sure[basis](t)(pupil.Basis(p, []Poly{poly("1/7", 0, 0)})), basis{slices.Repeat(vector{"1/7"}, 8)})
}

func TestBasisErrors(t *testing.T) {
	p := small()
	one, x := poly("1", 0, 0), poly("1", 1, 0)
	defocus := sure[Poly](t)(pupil.Zernike(2, 0))
	tooLarge := poly("1/"+nines(600), 1, 0)
	for _, row := range []struct {
		p     pupil.Pupil
		modes []Poly
		e     api.Errno
	}{
		{p, nil, api.ErrEmpty}, {empty(), []Poly{}, api.ErrEmpty},
		{p, make([]Poly, 17), api.ErrMany}, {p, slices.Repeat([]Poly{{{}}}, 17), api.ErrMany},
		{empty(), []Poly{one, {{}}}, api.ErrForm}, {empty(), []Poly{nil}, api.ErrNone}, {empty(), []Poly{one}, api.ErrNone},
		{p, []Poly{one, defocus}, api.ErrSingular}, {p, []Poly{nil}, api.ErrSingular}, {p, []Poly{one, nil}, api.ErrSingular},
		{p, []Poly{one, x, poly("5/3", 1, 0)}, api.ErrSingular}, {p, []Poly{x, one, {{"7", 0, 0}, {"1", 1, 0}}}, api.ErrSingular},
		{p, slices.Repeat([]Poly{one}, 16), api.ErrSingular}, {p, modes(t, 16), api.ErrSingular},
		{p, []Poly{one, nil, {{}}}, api.ErrForm}, {p, []Poly{tooLarge, nil}, api.ErrSingular}, {p, []Poly{tooLarge, one}, api.ErrLarge},
		{p, []Poly{one, tooLarge}, api.ErrLarge},
		{pupil.Pupil{Size: 3, Outer: "1/3", Inner: "0"}, []Poly{x}, api.ErrSingular},
	} {
		fails[basis](t, "Basis", row.e)(pupil.Basis(row.p, row.modes))
	}
	for _, row := range badPupils() {
		fails[basis](t, "Basis", row.e)(pupil.Basis(row.p, nil))
	}
	for _, row := range badPolys() {
		fails[basis](t, "Basis", row.e)(pupil.Basis(p, []Poly{row.f}))
		fails[basis](t, "Basis", row.e)(pupil.Basis(p, []Poly{one, row.f, poly("0", 0, 0)}))
	}
}

func TestExpand(t *testing.T) {
	b := sure[basis](t)(pupil.Basis(small(), []Poly{poly("1", 0, 0), poly("1", 1, 0)}))
	phase := sure[vector](t)(pupil.Sampled(small(), Poly{{"2", 0, 0}, {"4", 1, 0}}))
	huge := tenTo(599)
	for _, row := range []struct {
		b     basis
		phase vector
		want  expansion
	}{
		{b, phase, expansion{vector{"2", "4"}, zeros(8)}},
		{basis{{"1", "1"}}, vector{"1", "2"}, expansion{vector{"3/2"}, vector{"-1/2", "1/2"}}},
		{basis{{"2", "0", "0"}, {"0", "-3", "0"}}, vector{"1", "1", "1/5"}, expansion{vector{"1/2", "-1/3"}, vector{"0", "0", "1/5"}}},
		{basis{{"1", "1", "0"}, {"1", "-1", "1"}, {"1", "-1", "-2"}}, vector{"0", "1", "2"}, expansion{vector{"1/2", "1/3", "-5/6"}, zeros(3)}},
		{basis{{"1", "0"}}, zeros(2), expansion{vector{"0"}, zeros(2)}},
		{basis{{"5"}}, vector{"7"}, expansion{vector{"7/5"}, zeros(1)}},
		{basis{{huge, huge}}, vector{huge, "-" + huge}, expansion{vector{"0"}, vector{huge, "-" + huge}}},
		{basis{{huge, "-" + huge}, {"1/" + huge, "1/" + huge}}, vector{huge, "-" + huge}, expansion{vector{"1", "0"}, zeros(2)}},
	} {
		same(t, "Expand", sure[expansion](t)(expand(row.b, row.phase)), row.want)
	}
	wide := basis{slices.Repeat(vector{"1/2"}, 256)}
	same(t, "Expand of the longest vectors", sure[expansion](t)(expand(wide, slices.Repeat(vector{"3"}, 256))), expansion{vector{"6"}, zeros(256)})
}

// badBasis is a basis with an error beside it.
type badBasis struct {
	b basis
	e api.Errno
}

// badBases are bases with an error of their form, which precedes those of the
// phase or the coefficients.
func badBases() []badBasis {
	rows := []badBasis{
		{nil, api.ErrEmpty}, {basis{}, api.ErrEmpty}, {make(basis, 17), api.ErrMany}, {slices.Repeat(basis{{"x"}}, 17), api.ErrMany},
		{basis{make(vector, 257)}, api.ErrMany}, {basis{zeros(257)}, api.ErrMany}, {basis{{"0"}, zeros(257)}, api.ErrMany},
		{basis{{"1", "2"}, {"1"}}, api.ErrShape}, {basis{{"1"}, {"1", "2"}}, api.ErrShape}, {basis{{"1"}, nil}, api.ErrShape}, {basis{nil, {"1"}}, api.ErrShape},
		{basis{{"1", "2"}, {"x"}}, api.ErrForm}, {basis{{"1"}, {"1", "x"}, {tenTo(600)}}, api.ErrForm}, {basis{{"1"}, {"1", "2"}, {"x"}}, api.ErrShape},
		{basis{{"0"}, {"x"}}, api.ErrForm}, {basis{{"0"}, {"1", "2"}}, api.ErrShape}, {basis{{"1", tenTo(600), "x"}}, api.ErrLarge},
	}
	for a, e := range badNumbers() {
		rows = append(rows, badBasis{basis{{a}}, e}, badBasis{basis{{"1", "2"}, {"3", a}}, e})
	}
	return rows
}

// notOrthogonal are bases with an error of their vectors, which all have two
// elements.
func notOrthogonal() []badBasis {
	return []badBasis{
		{basis{{"0", "0"}}, api.ErrZero}, {basis{{"1", "0"}, {"0", "0"}}, api.ErrZero}, {basis{{"0", "0"}, {"1", "0"}, {"1", "0"}}, api.ErrZero},
		{basis{{"1", "0"}, {"1", "1"}}, api.ErrRule}, {basis{{"1", "0"}, {"0", "1"}, {"0", "2"}}, api.ErrRule}, {basis{{"1", "0"}, {"1", "0"}, {"0", "0"}}, api.ErrRule},
		{basis{{"1", "0"}, {"0", "0"}, {"1", "0"}}, api.ErrZero}, {basis{{"1", "1"}, {"1", "-" + nines(600)}}, api.ErrRule},
		{basis{{"1/" + nines(600), "0"}, {"1/" + nines(600), "1"}}, api.ErrRule},
	}
}

func TestExpandErrors(t *testing.T) {
	for _, row := range badBases() {
		fails[expansion](t, "Expand", row.e)(expand(row.b, make(vector, 257)))
	}
	for _, row := range notOrthogonal() {
		fails[expansion](t, "Expand", row.e)(expand(row.b, vector{"1", "2"}))
		fails[expansion](t, "Expand", api.ErrShape)(expand(row.b, vector{"1"}))
		fails[expansion](t, "Expand", api.ErrForm)(expand(row.b, vector{"1", "2", ""}))
	}
	good := basis{{"1", "0", "0"}, {"0", "1", "0"}}
	for _, row := range []struct {
		b     basis
		phase vector
		e     api.Errno
	}{
		{good, zeros(257), api.ErrMany}, {good, make(vector, 257), api.ErrMany}, {good, vector{"x"}, api.ErrForm}, {good, vector{tenTo(600), "x"}, api.ErrLarge},
		{good, nil, api.ErrShape}, {good, zeros(2), api.ErrShape}, {good, zeros(4), api.ErrShape}, {good, zeros(256), api.ErrShape},
		{basis{nil}, nil, api.ErrZero}, {basis{{}, {}}, vector{}, api.ErrZero}, {basis{nil}, vector{"1"}, api.ErrShape},
		{basis{{"1/10", "0"}}, vector{tenTo(599), "0"}, api.ErrLarge}, {basis{{"1", "1"}}, vector{nines(600), "-1/" + nines(600)}, api.ErrLarge},
		{basis{{"1", "1"}}, vector{nines(600), "-" + nines(600)}, api.OK},
		{basis{{"10", "1", "1"}, {"0", "1", "-1"}}, vector{"0", nines(600), nines(600)}, api.ErrLarge},
	} {
		if row.e == api.OK {
			sure[expansion](t)(expand(row.b, row.phase))
			continue
		}
		fails[expansion](t, "Expand", row.e)(expand(row.b, row.phase))
	}
	for a, e := range badNumbers() {
		fails[expansion](t, "Expand", e)(expand(good, vector{"1", a, "2"}))
	}
}

func TestCompose(t *testing.T) {
	huge, m := tenTo(599), "1"+nines(599)
	for _, row := range []struct {
		b            basis
		coefficients vector
		want         vector
	}{
		{basis{{"1", "1"}}, vector{"3/2"}, vector{"3/2", "3/2"}},
		{basis{{"1", "1", "0"}, {"1", "-1", "1"}, {"1", "-1", "-2"}}, vector{"1/2", "1/3", "-5/6"}, vector{"0", "1", "2"}},
		{basis{{"2", "0", "0"}, {"0", "-3", "0"}}, vector{"0", "1/3"}, vector{"0", "-1", "0"}},
		{basis{{"5"}}, vector{"0"}, vector{"0"}},
		{basis{{huge, "1"}, {"-1", huge}}, vector{"1", "0"}, vector{huge, "1"}},
		{basis{{"10", "0"}, {"0", "1"}}, vector{"1/10", "5"}, vector{"1", "5"}},
		// Twice 3 m is too long, less m it is not.
		{basis{{"2", "1"}, {"1", "-2"}}, vector{"5" + nines(598) + "7", "-" + m}, vector{nines(599) + "5", nines(599) + "5"}},
	} {
		same(t, "Compose", sure[vector](t)(pupil.Compose(row.b, row.coefficients)), row.want)
	}
	wide := slices.Repeat(vector{"1/2"}, 256)
	same(t, "Compose of the longest vectors", sure[vector](t)(pupil.Compose(basis{wide}, vector{"3"})), slices.Repeat(vector{"3/2"}, 256))
}

func TestComposeErrors(t *testing.T) {
	for _, row := range badBases() {
		fails[vector](t, "Compose", row.e)(pupil.Compose(row.b, make(vector, 257)))
	}
	for _, row := range notOrthogonal() {
		fails[vector](t, "Compose", row.e)(pupil.Compose(row.b, zeros(len(row.b))))
		fails[vector](t, "Compose", api.ErrShape)(pupil.Compose(row.b, zeros(len(row.b)+1)))
		fails[vector](t, "Compose", api.ErrForm)(pupil.Compose(row.b, make(vector, 5)))
	}
	good := basis{{"1", "0", "0"}, {"0", "1", "0"}}
	for _, row := range []struct {
		b            basis
		coefficients vector
		e            api.Errno
	}{
		{good, zeros(257), api.ErrMany}, {good, make(vector, 257), api.ErrMany}, {good, vector{"x"}, api.ErrForm}, {good, vector{tenTo(600), "x"}, api.ErrLarge},
		{good, nil, api.ErrShape}, {good, zeros(1), api.ErrShape}, {good, zeros(3), api.ErrShape}, {good, zeros(256), api.ErrShape},
		{basis{nil}, vector{"1"}, api.ErrZero}, {basis{nil}, nil, api.ErrShape},
		{basis{{tenTo(599), "1"}}, vector{"10"}, api.ErrLarge}, {basis{{"1", "1/" + nines(600)}}, vector{"1/7"}, api.ErrLarge},
		{basis{{"1", "1"}, {"1", "-1"}}, vector{nines(600), nines(600)}, api.ErrLarge}, {basis{{"1", "1"}, {"1", "-1"}}, vector{nines(600), "-1"}, api.ErrLarge},
	} {
		fails[vector](t, "Compose", row.e)(pupil.Compose(row.b, row.coefficients))
	}
	for a, e := range badNumbers() {
		fails[vector](t, "Compose", e)(pupil.Compose(good, vector{"1", a}))
	}
}
