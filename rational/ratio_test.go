package rational

import (
	"math/big"
	"math/rand"
	"slices"
	"strings"
	"testing"

	"lenslet/api"
)

func sameRatio(t *testing.T, what string, got Ratio, want *big.Rat) {
	t.Helper()
	sameInt(t, what, got.Num(), want.Num())
	sameInt(t, what, got.Den(), want.Denom())
}

func randomRatio(r *rand.Rand) (Ratio, *big.Rat) {
	num, den := int64(r.Intn(41)-20), int64(r.Intn(12)+1)
	return Fraction(Whole(int(num)), Whole(int(den))), big.NewRat(num, den)
}

func TestFractions(t *testing.T) {
	r := rand.New(rand.NewSource(6))
	for range 20000 {
		a, x := randomRatio(r)
		b, y := randomRatio(r)
		sameRatio(t, "Fraction", a, x)
		sameRatio(t, "Neg", a.Neg(), new(big.Rat).Neg(x))
		sameRatio(t, "Abs", a.Abs(), new(big.Rat).Abs(x))
		sameRatio(t, "Add", a.Add(b), new(big.Rat).Add(x, y))
		sameRatio(t, "Sub", a.Sub(b), new(big.Rat).Sub(x, y))
		sameRatio(t, "Mul", a.Mul(b), new(big.Rat).Mul(x, y))
		if a.Cmp(b) != x.Cmp(y) || a.Sign() != x.Sign() {
			t.Errorf("Cmp or Sign of %v, %v is wrong", x, y)
		}
		floor, _ := floorDiv(x.Num(), x.Denom())
		sameInt(t, "Floor", a.Floor(), floor)
		if y.Sign() != 0 {
			sameRatio(t, "Div", a.Div(b), new(big.Rat).Quo(x, y))
		}
	}
}

func TestFractionEdges(t *testing.T) {
	zero := new(big.Rat)
	sameRatio(t, "zero value", Ratio{}, zero)
	sameRatio(t, "zero values added", Ratio{}.Add(Ratio{}), zero)
	sameRatio(t, "Div by 0", Integer(Whole(3)).Div(Ratio{}), zero)
	sameRatio(t, "Fraction of 0", Fraction(Whole(3), Int{}), zero)
	sameRatio(t, "Fraction", Fraction(Whole(-6), Whole(-4)), big.NewRat(3, 2))
	if text, e := (Ratio{}).Write(); text != "0" || e != api.OK {
		t.Errorf("Write of the zero value: got %q, %d", text, e)
	}
}

func TestReadAndWrite(t *testing.T) {
	nines := strings.Repeat("9", api.MaxDigits)
	for _, text := range []string{"0", "-7", "3/2", "-1/10", nines, "-" + nines, "1/" + nines, "-" + nines + "/2"} {
		a, e := Read(api.Rat(text))
		if e != api.OK {
			t.Errorf("Read %s: error %d", text, e)
		}
		if got, e := a.Write(); string(got) != text || e != api.OK {
			t.Errorf("Write of %s: got %s, error %d", text, got, e)
		}
	}
}

func TestWriteTooLarge(t *testing.T) {
	limit := Power(10, api.MaxDigits)
	below := limit.Sub(Whole(1))
	huge := Power(10, 5*api.MaxDigits)
	for _, row := range []struct {
		a Ratio
		e api.Errno
	}{
		{Integer(below), api.OK},
		{Integer(below.Neg()), api.OK},
		{Integer(limit), api.ErrLarge},
		{Integer(limit.Neg()), api.ErrLarge},
		{Fraction(Whole(1), below), api.OK},
		{Fraction(Whole(1), limit), api.ErrLarge},
		{Integer(huge), api.ErrLarge},
		{Fraction(Whole(-1), huge), api.ErrLarge},
	} {
		text, e := row.a.Write()
		if e != row.e || e != api.OK && text != "" {
			t.Errorf("Write: got %q, error %d, want error %d", text, e, row.e)
		}
	}
}

// TestLongFractions has numerators and denominators of several words, with
// common divisors across the fractions.
func TestLongFractions(t *testing.T) {
	r := rand.New(rand.NewSource(8))
	factors := []*big.Int{}
	for range 6 {
		factors = append(factors, new(big.Int).Rand(r, new(big.Int).Lsh(big.NewInt(1), 150)))
	}
	some := func() *big.Int {
		product := big.NewInt(int64(r.Intn(5) + 1))
		for range 3 {
			product.Mul(product, factors[r.Intn(len(factors))])
		}
		return product
	}
	for range 500 {
		x, y := new(big.Rat).SetFrac(some(), some()), new(big.Rat).SetFrac(some(), some())
		if r.Intn(2) == 0 {
			x.Neg(x)
		}
		a, b := fromBig(x), fromBig(y)
		sameRatio(t, "Add", a.Add(b), new(big.Rat).Add(x, y))
		sameRatio(t, "Sub", a.Sub(b), new(big.Rat).Sub(x, y))
		sameRatio(t, "Mul", a.Mul(b), new(big.Rat).Mul(x, y))
		sameRatio(t, "Div", b.Div(a), new(big.Rat).Quo(y, x))
		sameRatio(t, "Sub of itself", a.Sub(a), new(big.Rat))
		sameRatio(t, "Div by itself", a.Div(a), big.NewRat(1, 1))
	}
}

func TestMaxAndMin(t *testing.T) {
	r := rand.New(rand.NewSource(13))
	for range 500 {
		a, x := randomRatio(r)
		b, y := randomRatio(r)
		if x.Cmp(y) < 0 {
			x, y = y, x
		}
		sameRatio(t, "Max", Max(a, b), x)
		sameRatio(t, "Min", Min(a, b), y)
	}
}

func TestDenominator(t *testing.T) {
	sameInt(t, "Denominator of no numbers", Denominator(nil), big.NewInt(1))
	r := rand.New(rand.NewSource(12))
	for range 200 {
		var list []Ratio
		least := big.NewInt(1)
		for range 4 {
			a, x := randomRatio(r)
			list = append(list, a)
			common := new(big.Int).GCD(nil, nil, least, x.Denom())
			least.Mul(least, new(big.Int).Quo(x.Denom(), common))
		}
		sameInt(t, "Denominator", Denominator(list), least)
	}
}

func TestIntegers(t *testing.T) {
	r := rand.New(rand.NewSource(14))
	for n := range 200 {
		var list []Ratio
		for range n % 5 {
			a, _ := randomRatio(r)
			list = append(list, a.Mul(Integer(Whole(3))))
		}
		counts, unit := Integers(list)
		common := Int{}
		for i, x := range list {
			common = common.Gcd(counts[i])
			if Integer(counts[i]).Mul(unit).Cmp(x) != 0 {
				t.Errorf("Integers of %v: got %v in units of %v", list, counts, unit)
			}
		}
		if len(counts) != len(list) || unit.Sign() <= 0 || common.Cmp(Whole(1)) > 0 {
			t.Errorf("Integers of %v: got %v in units of %v", list, counts, unit)
		}
	}
	if counts, unit := Integers(make([]Ratio, 2)); counts[0].Sign() != 0 || counts[1].Sign() != 0 || unit.Cmp(Integer(Whole(1))) != 0 {
		t.Errorf("Integers of zeros: got %v in units of %v", counts, unit)
	}
}

func TestDot(t *testing.T) {
	sameRatio(t, "Dot of no numbers", Dot(nil, nil), new(big.Rat))
	r := rand.New(rand.NewSource(15))
	for range 200 {
		var left, right []Ratio
		want := new(big.Rat)
		for range 3 {
			a, x := randomRatio(r)
			b, y := randomRatio(r)
			left, right = append(left, a), append(right, b)
			want.Add(want, x.Mul(x, y))
		}
		sameRatio(t, "Dot", Dot(left, right), want)
	}
}

func TestReadAmount(t *testing.T) {
	nines := api.Rat(strings.Repeat("9", api.MaxDigits))
	for _, row := range []struct {
		a api.Rat
		e api.Errno
	}{
		{"0", api.OK}, {"1/" + nines, api.OK}, {nines, api.OK},
		{"-1/" + nines, api.ErrRange}, {"-1", api.ErrRange}, {"", api.ErrForm}, {"-2/4", api.ErrForm}, {"-0", api.ErrForm}, {"-" + nines + "0", api.ErrLarge},
	} {
		x, e := ReadAmount(row.a)
		if e != row.e || e != api.OK && x.Sign() != 0 {
			t.Errorf("ReadAmount of %s: got %v, error %d, want error %d", row.a, x, e, row.e)
		}
	}
}

func TestWriteMatrix(t *testing.T) {
	at := func(i, j int) Ratio { return Fraction(Whole(i), Whole(j+1)) }
	got, e := WriteMatrix(2, 3, at)
	want := [][]api.Rat{{"0", "0", "0"}, {"1", "1/2", "1/3"}}
	if e != api.OK || !slices.EqualFunc(got, want, slices.Equal) {
		t.Errorf("WriteMatrix: got %v, error %d", got, e)
	}
	asked := 0
	large := func(i, j int) Ratio {
		asked++
		return Integer(Power(10, 300*(i+j)))
	}
	if got, e := WriteMatrix(3, 2, large); got != nil || e != api.ErrLarge || asked != 4 {
		t.Errorf("WriteMatrix: got %v, error %d after %d numbers", got, e, asked)
	}
}

func TestReadPositive(t *testing.T) {
	nines := api.Rat(strings.Repeat("9", api.MaxDigits))
	for _, row := range []struct {
		a api.Rat
		e api.Errno
	}{
		{"1", api.OK}, {"1/" + nines, api.OK}, {nines, api.OK},
		{"0", api.ErrRange}, {"-1/" + nines, api.ErrRange}, {"-1", api.ErrRange}, {"", api.ErrForm}, {"-2/4", api.ErrForm}, {"-0", api.ErrForm}, {"-" + nines + "0", api.ErrLarge},
	} {
		x, e := ReadPositive(row.a)
		if e != row.e || e != api.OK && x.Sign() != 0 {
			t.Errorf("ReadPositive of %s: got %v, error %d, want error %d", row.a, x, e, row.e)
		}
	}
}

func TestReadPart(t *testing.T) {
	nines, fewer := strings.Repeat("9", api.MaxDigits), strings.Repeat("9", api.MaxDigits-1)
	for _, row := range []struct {
		a api.Rat
		e api.Errno
	}{
		{"0", api.OK}, {"1/2", api.OK}, {"1", api.OK}, {api.Rat(fewer + "8/" + nines), api.OK},
		{api.Rat("-1/" + nines), api.ErrRange}, {"-1", api.ErrRange}, {api.Rat(nines + "/" + fewer + "8"), api.ErrRange}, {"2", api.ErrRange}, {"", api.ErrForm}, {"4/2", api.ErrForm}, {api.Rat(nines + "0"), api.ErrLarge},
	} {
		x, e := ReadPart(row.a)
		if e != row.e || e != api.OK && x.Sign() != 0 {
			t.Errorf("ReadPart of %s: got %v, error %d, want error %d", row.a, x, e, row.e)
		}
	}
}

// fromBig returns the fraction that is equal to a rational number.
func fromBig(x *big.Rat) Ratio {
	num := fromDigits(new(big.Int).Abs(x.Num()).String())
	if x.Sign() < 0 {
		num = num.Neg()
	}
	return Fraction(num, fromDigits(x.Denom().String()))
}

func TestReadAllAndWriteAll(t *testing.T) {
	numbers := []api.Rat{"1/2", "-3", "0"}
	list, e := ReadAll(numbers)
	if e != api.OK || len(list) != 3 {
		t.Fatalf("ReadAll: got %v, error %d", list, e)
	}
	if got, e := WriteAll(list); e != api.OK || !slices.Equal(got, numbers) {
		t.Errorf("WriteAll: got %v, error %d", got, e)
	}
	tooLong := "1" + strings.Repeat("0", api.MaxDigits)
	if list, e := ReadAll([]api.Rat{"1", "2/4", api.Rat(tooLong)}); list != nil || e != api.ErrForm {
		t.Errorf("ReadAll: got %v, error %d", list, e)
	}
	if got, e := WriteAll([]Ratio{{}, Integer(Power(10, api.MaxDigits))}); got != nil || e != api.ErrLarge {
		t.Errorf("WriteAll: got %v, error %d", got, e)
	}
}
