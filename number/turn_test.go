package number

import (
	"math"
	"math/big"
	"math/rand"
	"testing"

	"lenslet/api"
	"lenslet/rational"
)

// P1.3: turns and boxes.

func TestCosinesThatAreRational(t *testing.T) {
	for turn, want := range map[api.Rat]api.Rat{
		"0": "1", "1/6": "1/2", "1/4": "0", "1/3": "-1/2", "1/2": "-1", "2/3": "-1/2", "3/4": "0", "5/6": "1/2",
		"1": "1", "-1/6": "1/2", "-2/3": "-1/2", "7/2": "-1", "-7/2": "-1", "13/6": "1/2", nines(600): "1",
	} {
		for _, decimals := range []int{1, 12} {
			same(t, "Cos "+string(turn), sure[api.Span](t)(Cos(turn, decimals)), point(want))
		}
	}
	for turn, want := range map[api.Rat]api.Rat{
		"0": "0", "1/12": "1/2", "1/4": "1", "5/12": "1/2", "1/2": "0", "7/12": "-1/2", "3/4": "-1", "11/12": "-1/2",
		"1": "0", "-1/12": "-1/2", "-1/4": "-1", "5/4": "1", "-" + nines(600): "0",
	} {
		same(t, "Sin "+string(turn), sure[api.Span](t)(Sin(turn, 3)), point(want))
	}
}

func TestCosinesThatAreIrrational(t *testing.T) {
	for _, row := range []struct {
		turn     api.Rat
		decimals int
		want     api.Span
	}{
		{"1/8", 3, span("707/1000", "177/250")}, {"3/8", 3, span("-177/250", "-707/1000")},
		{"5/8", 1, span("-4/5", "-7/10")}, {"7/8", 1, span("7/10", "4/5")}, {"-7/8", 1, span("7/10", "4/5")},
		{"1/5", 4, span("309/1000", "3091/10000")}, {"-1/5", 4, span("309/1000", "3091/10000")}, {"6/5", 4, span("309/1000", "3091/10000")},
		{"1/8", 12, span("353553390593/500000000000", "707106781187/1000000000000")},
		{"1/999999999", 12, span("999999999999/1000000000000", "1")}, {"1/999999999", 1, span("9/10", "1")},
		{"499999999/999999999", 12, span("-1", "-999999999999/1000000000000")},
		{"249999999/999999998", 8, span("0", "1/100000000")}, {"249999999/999999998", 12, span("3141/1000000000000", "1571/500000000000")},
		{"-" + nines(599) + "1/5", 4, span("309/1000", "3091/10000")},
	} {
		same(t, "Cos "+string(row.turn), sure[api.Span](t)(Cos(row.turn, row.decimals)), row.want)
	}
	same(t, "Sin", sure[api.Span](t)(Sin("-1/8", 3)), span("-177/250", "-707/1000"))
	same(t, "Sin", sure[api.Span](t)(Sin("1/999999999", 1)), span("0", "1/10"))
	same(t, "Sin", sure[api.Span](t)(Sin("-1/999999999", 1)), span("-1/10", "0"))
	same(t, "Sin", sure[api.Span](t)(Sin("1/999999999", 12)), span("6283/1000000000000", "1571/250000000000"))
}

func TestErrorsOfTurns(t *testing.T) {
	for _, row := range []struct {
		turn     api.Rat
		decimals int
		e        api.Errno
	}{
		{"", 3, api.ErrForm}, {"2/4", 0, api.ErrForm}, {tenTo(600), 0, api.ErrLarge},
		{"1/1000000000", 3, api.ErrLarge}, {"1/1000000000", 0, api.ErrLarge}, {"-1/" + nines(600), 3, api.ErrLarge},
		{"1/5", 0, api.ErrRange}, {"1/5", 13, api.ErrRange}, {"1/4", -1, api.ErrRange}, {"0", 0, api.ErrRange},
		{"1/5", math.MaxInt, api.ErrRange}, {"1/5", math.MinInt, api.ErrRange},
	} {
		fails[api.Span](t, "Cos "+string(row.turn), row.e)(Cos(row.turn, row.decimals))
		fails[api.Span](t, "Sin "+string(row.turn), row.e)(Sin(row.turn, row.decimals))
		fails[api.Box](t, "Turn "+string(row.turn), row.e)(Turn(row.turn, row.decimals))
	}
}

// bigCosine returns the cosine of a turn from -1 to 1, with an error far
// below 10^-60.
func bigCosine(turn *big.Rat) *big.Float {
	const precision = 400
	pi, _ := new(big.Float).SetPrec(precision).SetString("3.14159265358979323846264338327950288419716939937510582097494459230781640628620899862803482534211706798")
	angle := new(big.Float).SetPrec(precision).SetRat(turn)
	angle.Mul(angle, pi).Mul(angle, big.NewFloat(2))
	square := new(big.Float).Mul(angle, angle)
	sum, term := new(big.Float).SetPrec(precision), big.NewFloat(1).SetPrec(precision)
	for k := int64(2); k < 160; k += 2 {
		sum.Add(sum, term)
		term.Mul(term, square).Quo(term, new(big.Float).SetInt64(-k*(k-1)))
	}
	return sum
}

func TestCosinesLieInTheirSpans(t *testing.T) {
	r := rand.New(rand.NewSource(5))
	for i := range 2000 {
		den := r.Int63n(30) + 7
		if i%2 == 0 {
			den = r.Int63n(api.MaxNumber) + 1
		}
		turn := big.NewRat(r.Int63n(2*den)-den, den)
		decimals := r.Intn(MaxDecimals) + 1
		s := sure[api.Span](t)(Cos(fromBig(turn), decimals))
		if s.Low == s.High {
			continue
		}
		step := new(big.Rat).SetFrac64(1, int64(math.Pow10(decimals)))
		low, high := asBig(t, s.Low), asBig(t, s.High)
		if width := new(big.Rat).Sub(high, low); width.Cmp(step) != 0 {
			t.Errorf("the span %v of the cosine of %v is not one step wide", s, turn)
		}
		if !new(big.Rat).Quo(low, step).IsInt() {
			t.Errorf("the span %v of the cosine of %v is not between steps", s, turn)
		}
		value, _ := bigCosine(turn).Rat(nil)
		if low.Cmp(value) >= 0 || high.Cmp(value) <= 0 {
			t.Errorf("the cosine of %v is not in %v", turn, s)
		}
	}
}

func TestSinesAreCosines(t *testing.T) {
	for n := -40; n <= 40; n++ {
		turn := sure[api.Rat](t)(Of(n, 19))
		shifted := sure[api.Rat](t)(Sub(turn, "1/4"))
		sine := sure[api.Span](t)(Sin(turn, 7))
		same(t, "Sin "+string(turn), sine, sure[api.Span](t)(Cos(shifted, 7)))
		same(t, "Turn "+string(turn), sure[api.Box](t)(Turn(turn, 7)), api.Box{Re: sure[api.Span](t)(Cos(turn, 7)), Im: sine})
	}
}

// A cosine near a step between two spans needs more than the first precision.
// No turn with few decimals does, but each one does with nearly all digits.
func TestPrecisionGrows(t *testing.T) {
	steps := cosineSteps(part(1, 8), 31)
	same(t, "31 decimals", steps.String(), "7071067811865475244008443621048")
	steps = cosineSteps(part(1, 8), 0)
	same(t, "no decimals", steps.String(), "0")
}

func TestRoughCosineIsWithinItsMargin(t *testing.T) {
	for n := range 50 {
		for _, digits := range []int{1, 5, 32, 64} {
			const more = 40
			turn := part(n, 98)
			rough := roughCosine(turn, digits)
			fine := roughCosine(turn, digits+more)
			distance := rough.Mul(rational.Power(10, more)).Sub(fine).Abs()
			if margin := rational.Power(10, more).Mul(rational.Whole(marginPerDigit * digits)); distance.Cmp(margin) > 0 {
				t.Errorf("the cosine of %d/98 with %d digits errs too much", n, digits)
			}
		}
	}
}

func TestCheckBox(t *testing.T) {
	for _, row := range []struct {
		b api.Box
		e api.Errno
	}{
		{complexOf("1", "2"), api.OK}, {box("-1", "2", "1/3", "1/2"), api.OK}, {api.Box{}, api.ErrForm},
		{box("2", "1", "x", "1"), api.ErrOrder}, {box("1", "1", "2", "1"), api.ErrOrder},
		{box("1", "1", tenTo(600), "1"), api.ErrLarge}, {box("1", "x", tenTo(600), "1"), api.ErrForm},
	} {
		same(t, "CheckBox", CheckBox(row.b), row.e)
	}
}

func TestBoxOperations(t *testing.T) {
	a, b := complexOf("1", "2"), complexOf("3", "-1")
	same(t, "AddBox", sure[api.Box](t)(AddBox(a, b)), complexOf("4", "1"))
	same(t, "AddBox of boxes", sure[api.Box](t)(AddBox(box("0", "1", "2", "3"), box("-1/2", "1/2", "-3", "0"))), box("-1/2", "3/2", "-1", "3"))
	same(t, "MulBox", sure[api.Box](t)(MulBox(a, b)), complexOf("5", "5"))
	same(t, "MulBox by i", sure[api.Box](t)(MulBox(box("0", "1", "0", "1"), complexOf("0", "1"))), box("-1", "0", "0", "1"))
	same(t, "MulBox of boxes", sure[api.Box](t)(MulBox(box("1", "2", "-1", "3"), box("0", "1", "2", "5"))), box("-15", "7", "1", "13"))
	same(t, "Conjugate", sure[api.Box](t)(Conjugate(a)), complexOf("1", "-2"))
	same(t, "Conjugate of a box", sure[api.Box](t)(Conjugate(box("0", "1", "-1", "2"))), box("0", "1", "-2", "1"))
	same(t, "Conjugate of a real box", sure[api.Box](t)(Conjugate(box("0", "1", "0", "0"))), box("0", "1", "0", "0"))
	same(t, "Norm", sure[api.Span](t)(Norm(a)), point("5"))
	same(t, "Norm of a box", sure[api.Span](t)(Norm(box("-1", "2", "1", "3"))), span("1", "13"))
	same(t, "Turn of 1/4", sure[api.Box](t)(Turn("1/4", 2)), complexOf("0", "1"))
	same(t, "Turn of -1/8", sure[api.Box](t)(Turn("-1/8", 1)), box("7/10", "4/5", "-4/5", "-7/10"))
}

func TestErrorsOfBoxOperations(t *testing.T) {
	good, disordered := complexOf("1", "2"), box("1", "2", "2", "1")
	large := complexOf(nines(600), "1")
	for name, of := range map[string]func(a, b api.Box) (api.Box, api.Errno){"AddBox": AddBox, "MulBox": MulBox} {
		fails[api.Box](t, name, api.ErrOrder)(of(disordered, api.Box{}))
		fails[api.Box](t, name, api.ErrForm)(of(good, api.Box{}))
		fails[api.Box](t, name, api.ErrLarge)(of(large, large))
	}
	fails[api.Box](t, "Conjugate", api.ErrOrder)(Conjugate(disordered))
	fails[api.Span](t, "Norm", api.ErrOrder)(Norm(disordered))
	fails[api.Span](t, "Norm", api.ErrLarge)(Norm(large))
}

// The squares of 3/5 and 4/5 of a small number have more digits than their sum.
func TestOnlyResultsAreBounded(t *testing.T) {
	re, im := "3/25"+tenTo(299)[1:], "1/625"+tenTo(297)[1:]
	fails[api.Rat](t, "Mul", api.ErrLarge)(Mul(re, re))
	want := "1/25" + tenTo(598)[1:]
	same(t, "Norm", sure[api.Span](t)(Norm(complexOf(re, im))), point(want))
	same(t, "MulBox", sure[api.Box](t)(MulBox(complexOf(re, im), complexOf(re, "-"+im))), complexOf(want, "0"))
}

// P1.7: the consequences for turns and boxes.

func TestMembersOfBoxes(t *testing.T) {
	r := rand.New(rand.NewSource(6))
	for range 500 {
		a := api.Box{Re: randomSpan(t, r), Im: randomSpan(t, r)}
		b := api.Box{Re: randomSpan(t, r), Im: randomSpan(t, r)}
		x := complexOf(member(t, r, a.Re), member(t, r, a.Im))
		y := complexOf(member(t, r, b.Re), member(t, r, b.Im))
		for i, pair := range [][2]api.Box{
			{sure[api.Box](t)(AddBox(a, b)), sure[api.Box](t)(AddBox(x, y))},
			{sure[api.Box](t)(MulBox(a, b)), sure[api.Box](t)(MulBox(x, y))},
			{sure[api.Box](t)(Conjugate(a)), sure[api.Box](t)(Conjugate(x))},
		} {
			if !containsSpan(t, pair[0].Re, pair[1].Re) || !containsSpan(t, pair[0].Im, pair[1].Im) {
				t.Errorf("operation %d on %v and %v: %v is not in %v", i, a, b, pair[1], pair[0])
			}
		}
		if all, one := sure[api.Span](t)(Norm(a)), sure[api.Span](t)(Norm(x)); !containsSpan(t, all, one) {
			t.Errorf("norm of %v: %v is not in %v", a, one, all)
		}
	}
}

func TestCosinesAreNested(t *testing.T) {
	for n := -15; n < 30; n++ {
		turn := sure[api.Rat](t)(Of(n, 23))
		for decimals := 1; decimals < MaxDecimals; decimals++ {
			outer, inner := sure[api.Box](t)(Turn(turn, decimals)), sure[api.Box](t)(Turn(turn, decimals+1))
			if !containsSpan(t, outer.Re, inner.Re) || !containsSpan(t, outer.Im, inner.Im) {
				t.Errorf("turn %s: %v is not in %v", turn, inner, outer)
			}
		}
	}
}

// meet reports whether two spans have a number in common.
func meet(t *testing.T, a, b api.Span) bool {
	t.Helper()
	return asBig(t, a.Low).Cmp(asBig(t, b.High)) <= 0 && asBig(t, b.Low).Cmp(asBig(t, a.High)) <= 0
}

func TestTurnsAreComplexNumbersOfMagnitudeOne(t *testing.T) {
	r := rand.New(rand.NewSource(7))
	for range 300 {
		a, b, decimals := randomRat(r), randomRat(r), r.Intn(MaxDecimals)+1
		x, y := sure[api.Box](t)(Turn(a, decimals)), sure[api.Box](t)(Turn(b, decimals))
		if norm := sure[api.Span](t)(Norm(x)); !contains(t, norm, "1") {
			t.Errorf("the norm %v of the turn %s does not contain 1", norm, a)
		}
		product := sure[api.Box](t)(MulBox(x, y))
		sum := sure[api.Box](t)(Turn(sure[api.Rat](t)(Add(a, b)), decimals))
		if !meet(t, product.Re, sum.Re) || !meet(t, product.Im, sum.Im) {
			t.Errorf("the product of the turns %s and %s does not meet the turn of the sum", a, b)
		}
	}
}
