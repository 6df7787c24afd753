package pupil_test

import (
	"math"
	"math/big"
	"math/rand"
	"strings"
	"testing"

	"lenslet/api"
	"lenslet/pupil"
)

type Poly = pupil.Poly

// P2.2: polynomials.

// badPoly is a polynomial with an error.
type badPoly struct {
	f Poly
	e api.Errno
}

// badPolys are polynomials whose first error is the one beside them.
func badPolys() []badPoly {
	rows := []badPoly{
		{Poly{{}}, api.ErrForm},
		{poly("0", -1, 0), api.ErrZero},
		{Poly{{"1", 1, 0}, {"1", 1, 0}}, api.ErrOrder},
		{Poly{{"1", 1, 0}, {"1", 0, 0}}, api.ErrOrder},
		{Poly{{"1", 0, 1}, {"1", 1, 0}}, api.ErrOrder},
		{Poly{{"1", 2, 0}, {"1", 0, 2}, {"1", 1, 1}}, api.ErrOrder},
		{Poly{{"1", 1, 1}, {"1", 0, 1}}, api.ErrOrder},
		{Poly{{"1", 1, 1}, {"1", 0, 1}, {"x", 0, 5}}, api.ErrOrder},
		{Poly{{"1", 1, 1}, {"0", 0, 1}}, api.ErrZero},
		{Poly{{"1", 1, 1}, {"1", 0, -1}}, api.ErrRange},
		{Poly{{"1", 1, 1}, {"1/" + tenTo(600), -1, 0}, {"x", 0, 0}}, api.ErrLarge},
		{poly("1", 16, 1), api.ErrRange}, {poly("1", 1, 16), api.ErrRange}, {poly("1", 9, 8), api.ErrRange},
		{poly("1", math.MaxInt, 16), api.ErrRange}, {poly("1", 16, math.MaxInt), api.ErrRange},
	}
	for a, e := range badNumbers() {
		rows = append(rows, badPoly{poly(a, -1, 0), e}, badPoly{Poly{{"1", 0, 0}, {a, 0, 0}}, e})
	}
	for _, n := range []int{math.MinInt, -1, 17, math.MaxInt} {
		rows = append(rows, badPoly{poly("1", n, 0), api.ErrRange}, badPoly{poly("1", 0, n), api.ErrRange}, badPoly{poly("1", n, n), api.ErrRange})
		rows = append(rows, badPoly{poly("1", n, 17-n), api.ErrRange}, badPoly{Poly{{"1", 0, 0}, {"2", n, 0}}, api.ErrRange})
	}
	return rows
}

// full returns the polynomial with all terms of a degree.
func full(degree int) Poly {
	var f Poly
	for d := range degree + 1 {
		for j := range d + 1 {
			f = append(f, pupil.Term{C: "1", I: d - j, J: j})
		}
	}
	return f
}

func TestCheckPoly(t *testing.T) {
	for _, f := range []Poly{
		nil, {}, full(16), poly(nines(600), 16, 0), poly("-1/"+nines(600), 0, 16), poly("1", 8, 8), {{"1", 1, 0}, {"1", 0, 1}, {"-2/3", 0, 16}},
	} {
		same(t, "CheckPoly", pupil.CheckPoly(f), api.OK)
	}
	x := poly("1", 1, 0)
	for _, row := range badPolys() {
		same(t, "CheckPoly", pupil.CheckPoly(row.f), row.e)
		fails[api.Rat](t, "Value", row.e)(pupil.Value(row.f, api.Place{X: "x", Y: tenTo(600)}))
		fails[Poly](t, "AddPoly", row.e)(pupil.AddPoly(row.f, Poly{{}}))
		fails[Poly](t, "AddPoly", row.e)(pupil.AddPoly(x, row.f))
		fails[Poly](t, "MulPoly", row.e)(pupil.MulPoly(row.f, Poly{{}}))
		fails[Poly](t, "MulPoly", row.e)(pupil.MulPoly(x, row.f))
		fails[Poly](t, "Derive", row.e)(pupil.Derive(row.f, "z"))
		fails[Poly](t, "Turned", row.e)(pupil.Turned(row.f))
		fails[api.Rat](t, "DiscProduct", row.e)(pupil.DiscProduct(row.f, Poly{{}}))
		fails[api.Rat](t, "DiscProduct", row.e)(pupil.DiscProduct(x, row.f))
	}
}

func TestFirstPolyDecides(t *testing.T) {
	form, zero := poly("x", 0, 0), poly("0", 0, 0)
	fails[Poly](t, "AddPoly", api.ErrZero)(pupil.AddPoly(zero, form))
	fails[Poly](t, "MulPoly", api.ErrForm)(pupil.MulPoly(form, zero))
	fails[api.Rat](t, "DiscProduct", api.ErrZero)(pupil.DiscProduct(zero, form))
}

func TestValue(t *testing.T) {
	defocus := Poly{{"-1", 0, 0}, {"2", 2, 0}, {"2", 0, 2}}
	for _, row := range []struct {
		f    Poly
		at   api.Place
		want api.Rat
	}{
		{defocus, api.Place{X: "1/4", Y: "3/4"}, "1/4"},
		{defocus, api.Place{X: "0", Y: "0"}, "-1"},
		{nil, api.Place{X: "5", Y: "-1/3"}, "0"},
		{poly("7", 0, 0), api.Place{X: "0", Y: "0"}, "7"},
		{poly("2/3", 3, 1), api.Place{X: "-3", Y: "5/7"}, "-90/7"},
		{poly("1", 0, 16), api.Place{X: "9", Y: "-2"}, "65536"},
		{poly("1", 16, 0), api.Place{X: "1/2", Y: nines(600)}, "1/65536"},
		{poly("1", 15, 0), api.Place{X: tenTo(39), Y: "0"}, tenTo(585)},
		{Poly{{tenTo(599), 1, 0}, {"-" + tenTo(599), 0, 1}}, api.Place{X: "3", Y: "3"}, "0"},
		{Poly{{"1", 2, 0}, {"-1", 0, 2}}, api.Place{X: nines(600), Y: "-" + nines(600)}, "0"},
		{poly("1/"+tenTo(599), 2, 0), api.Place{X: tenTo(599), Y: "0"}, tenTo(599)},
	} {
		same(t, "Value", sure[api.Rat](t)(pupil.Value(row.f, row.at)), row.want)
	}
	for _, row := range []struct {
		f  Poly
		at api.Place
		e  api.Errno
	}{
		{poly("1", 16, 0), api.Place{X: tenTo(38), Y: "0"}, api.ErrLarge},
		{poly("1", 0, 2), api.Place{X: "0", Y: "1/" + tenTo(300)}, api.ErrLarge},
		{Poly{{nines(600), 0, 0}, {"1", 1, 0}}, api.Place{X: "1", Y: "0"}, api.ErrLarge},
		{nil, api.Place{}, api.ErrForm}, {nil, api.Place{X: tenTo(600), Y: "x"}, api.ErrLarge},
		{nil, api.Place{X: "x", Y: tenTo(600)}, api.ErrForm}, {nil, api.Place{X: "1", Y: tenTo(600)}, api.ErrLarge}, {defocus, api.Place{X: "1", Y: "3/6"}, api.ErrForm},
	} {
		fails[api.Rat](t, "Value", row.e)(pupil.Value(row.f, row.at))
	}
}

func TestAddPoly(t *testing.T) {
	f, g := Poly{{"1", 0, 0}, {"2", 1, 0}, {"-1/2", 0, 2}}, Poly{{"-2", 1, 0}, {"1/3", 0, 1}, {"1", 1, 1}, {"1/2", 0, 2}}
	for _, row := range []struct{ f, g, want Poly }{
		{f, g, Poly{{"1", 0, 0}, {"1/3", 0, 1}, {"1", 1, 1}}},
		{f, nil, f}, {nil, g, g}, {nil, nil, nil},
		{poly("1", 3, 2), poly("-1", 3, 2), nil},
		{poly("1", 0, 2), poly("1", 1, 1), Poly{{"1", 1, 1}, {"1", 0, 2}}},
		{poly("1", 0, 2), poly("1", 2, 0), Poly{{"1", 2, 0}, {"1", 0, 2}}},
		{poly("1", 3, 0), poly("1", 0, 2), Poly{{"1", 0, 2}, {"1", 3, 0}}},
		{poly(nines(600), 16, 0), poly("-1", 16, 0), poly(nines(599)+"8", 16, 0)},
	} {
		same(t, "AddPoly", sure[Poly](t)(pupil.AddPoly(row.f, row.g)), row.want)
	}
	fails[Poly](t, "AddPoly", api.ErrLarge)(pupil.AddPoly(poly(nines(600), 1, 2), poly("1", 1, 2)))
	fails[Poly](t, "AddPoly", api.ErrLarge)(pupil.AddPoly(poly("1/"+nines(600), 0, 0), Poly{{"1/2", 0, 0}, {"1", 0, 1}}))
}

func TestMulPoly(t *testing.T) {
	sum, difference := Poly{{"1", 1, 0}, {"1", 0, 1}}, Poly{{"1", 1, 0}, {"-1", 0, 1}}
	for _, row := range []struct{ f, g, want Poly }{
		{sum, difference, Poly{{"1", 2, 0}, {"-1", 0, 2}}},
		{sum, sum, Poly{{"1", 2, 0}, {"2", 1, 1}, {"1", 0, 2}}},
		{poly("2/3", 1, 0), Poly{{"3", 0, 0}, {"1/2", 0, 3}}, Poly{{"2", 1, 0}, {"1/3", 1, 3}}},
		{poly("-1", 8, 0), poly("1", 0, 8), poly("-1", 8, 8)},
		{poly("1", 16, 0), poly("5", 0, 0), poly("5", 16, 0)},
		{nil, full(16), nil}, {full(16), nil, nil}, {nil, nil, nil},
		{poly(tenTo(599), 0, 0), poly("1/"+tenTo(599), 2, 1), poly("1", 2, 1)},
	} {
		same(t, "MulPoly", sure[Poly](t)(pupil.MulPoly(row.f, row.g)), row.want)
	}
	fails[Poly](t, "MulPoly", api.ErrRange)(pupil.MulPoly(poly("1", 16, 0), poly("1", 0, 1)))
	fails[Poly](t, "MulPoly", api.ErrRange)(pupil.MulPoly(Poly{{"1", 0, 0}, {"1", 0, 9}}, full(8)))
	fails[Poly](t, "MulPoly", api.ErrRange)(pupil.MulPoly(poly(tenTo(599), 9, 0), poly("10", 0, 8)))
	fails[Poly](t, "MulPoly", api.ErrLarge)(pupil.MulPoly(poly(tenTo(599), 8, 0), poly("10", 0, 8)))
	fails[Poly](t, "MulPoly", api.ErrLarge)(pupil.MulPoly(Poly{{"1", 0, 0}, {"1/" + tenTo(300), 1, 0}}, Poly{{"1", 0, 0}, {"1/" + tenTo(300), 0, 1}}))
}

func TestDerive(t *testing.T) {
	f := Poly{{"5", 0, 0}, {"-1", 1, 0}, {"2", 0, 1}, {"1/6", 2, 1}, {"1", 0, 3}}
	for _, row := range []struct {
		f    Poly
		axis string
		want Poly
	}{
		{poly("2", 1, 1), "x", poly("2", 0, 1)}, {poly("2", 1, 1), "y", poly("2", 1, 0)},
		{f, "x", Poly{{"-1", 0, 0}, {"1/3", 1, 1}}}, {f, "y", Poly{{"2", 0, 0}, {"1/6", 2, 0}, {"3", 0, 2}}},
		{poly("1", 16, 0), "x", poly("16", 15, 0)}, {poly("1", 16, 0), "y", nil}, {poly("3", 0, 0), "x", nil}, {nil, "y", nil},
		{poly("1/"+nines(600), 9, 0), "x", poly(api.Rat("1/"+strings.Repeat("1", 600)), 8, 0)},
	} {
		same(t, "Derive by "+row.axis, sure[Poly](t)(pupil.Derive(row.f, row.axis)), row.want)
	}
	for _, axis := range []string{"", "X", "z", "xy", "x ", "\x00"} {
		fails[Poly](t, "Derive by "+axis, api.ErrKind)(pupil.Derive(f, axis))
	}
	fails[Poly](t, "Derive", api.ErrLarge)(pupil.Derive(poly(nines(600), 2, 0), "x"))
	fails[Poly](t, "Derive", api.ErrLarge)(pupil.Derive(poly(nines(600), 0, 2), "y"))
	fails[Poly](t, "Derive", api.ErrKind)(pupil.Derive(poly(nines(600), 2, 0), "z"))
	same(t, "Derive", sure[Poly](t)(pupil.Derive(poly(nines(600), 2, 0), "y")), nil)
}

func TestTurned(t *testing.T) {
	for _, row := range []struct{ f, want Poly }{
		{poly("1", 1, 0), poly("1", 0, 1)}, {poly("1", 0, 1), poly("-1", 1, 0)},
		{Poly{{"4", 0, 0}, {"1", 1, 0}, {"2", 0, 1}}, Poly{{"4", 0, 0}, {"-2", 1, 0}, {"1", 0, 1}}},
		{Poly{{"1", 2, 0}, {"3", 1, 1}, {"5", 0, 2}}, Poly{{"5", 2, 0}, {"-3", 1, 1}, {"1", 0, 2}}},
		{poly(nines(600), 3, 5), poly("-"+nines(600), 5, 3)}, {nil, nil},
	} {
		same(t, "Turned", sure[Poly](t)(pupil.Turned(row.f)), row.want)
	}
}

// TestPolynomialsAtPlaces compares the functions with the values from their
// definitions at many places.
func TestPolynomialsAtPlaces(t *testing.T) {
	r := rand.New(rand.NewSource(2))
	for range 60 {
		f, g := randomPoly(r, r.Intn(9)), randomPoly(r, r.Intn(9))
		sum, product := sure[Poly](t)(pupil.AddPoly(f, g)), sure[Poly](t)(pupil.MulPoly(f, g))
		turned := sure[Poly](t)(pupil.Turned(f))
		for _, h := range []Poly{sum, product, turned, sure[Poly](t)(pupil.Derive(f, "x")), sure[Poly](t)(pupil.Derive(f, "y"))} {
			same(t, "CheckPoly of a result", pupil.CheckPoly(h), api.OK)
		}
		for range 4 {
			at := api.Place{X: randomRat(r), Y: randomRat(r)}
			x, y := asBig(t, at.X), asBig(t, at.Y)
			value := func(f Poly) api.Rat { return sure[api.Rat](t)(pupil.Value(f, at)) }
			same(t, "Value", value(f), fromBig(valueAt(t, f, x, y)))
			same(t, "Value of a sum", value(sum), fromBig(add(valueAt(t, f, x, y), valueAt(t, g, x, y))))
			same(t, "Value of a product", value(product), fromBig(mul(valueAt(t, f, x, y), valueAt(t, g, x, y))))
			same(t, "Value of a turned polynomial", value(turned), fromBig(valueAt(t, f, y, new(big.Rat).Neg(x))))
		}
	}
}

// TestDerivativeOfProducts checks the rule of Leibniz, and single powers.
func TestDerivativeOfProducts(t *testing.T) {
	r := rand.New(rand.NewSource(3))
	for range 40 {
		f, g := randomPoly(r, 6), randomPoly(r, 6)
		for _, axis := range []string{"x", "y"} {
			derive := func(f Poly) Poly { return sure[Poly](t)(pupil.Derive(f, axis)) }
			times := func(f, g Poly) Poly { return sure[Poly](t)(pupil.MulPoly(f, g)) }
			want := sure[Poly](t)(pupil.AddPoly(times(derive(f), g), times(f, derive(g))))
			same(t, "derivative of a product", derive(times(f, g)), want)
		}
	}
}
