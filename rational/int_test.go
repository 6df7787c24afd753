package rational

import (
	"math"
	"math/big"
	"math/rand"
	"strings"
	"testing"
)

// asBig returns an integer as the one of the standard library.
func asBig(t *testing.T, a Int) *big.Int {
	t.Helper()
	b, ok := new(big.Int).SetString(a.String(), 10)
	if !ok {
		t.Fatalf("String %q is no integer", a.String())
	}
	return b
}

// randomInt returns an integer of up to the given number of words, many of
// which are all zeros or ones: those reach the rare branches of a division.
func randomInt(r *rand.Rand, words int) Int {
	magnitude := make(natural, r.Intn(words+1))
	for i := range magnitude {
		switch r.Intn(5) {
		case 0:
			magnitude[i] = 0
		case 1:
			magnitude[i] = math.MaxUint64
		case 2:
			magnitude[i] = 1 << 63
		default:
			magnitude[i] = r.Uint64()
		}
	}
	return signed(r.Intn(2) == 0, trimmed(magnitude))
}

func sameInt(t *testing.T, what string, got Int, want *big.Int) {
	t.Helper()
	if asBig(t, got).Cmp(want) != 0 {
		t.Errorf("%s: got %v, want %v", what, got, want)
	}
	if len(got.magnitude) == 0 && got.negative {
		t.Errorf("%s: 0 has a sign", what)
	}
	if n := len(got.magnitude); n > 0 && got.magnitude[n-1] == 0 {
		t.Errorf("%s: %v has leading zeros", what, got)
	}
}

// floorDiv returns the greatest integer not above a / b, and the remainder.
func floorDiv(a, b *big.Int) (*big.Int, *big.Int) {
	q, r := new(big.Int).QuoRem(a, b, new(big.Int))
	if r.Sign() != 0 && r.Sign() != b.Sign() {
		q.Sub(q, big.NewInt(1))
		r.Add(r, b)
	}
	return q, r
}

func TestArithmetic(t *testing.T) {
	r := rand.New(rand.NewSource(1))
	for range 20000 {
		a, b := randomInt(r, 12), randomInt(r, 8)
		x, y := asBig(t, a), asBig(t, b)
		sameInt(t, "Add", a.Add(b), new(big.Int).Add(x, y))
		sameInt(t, "Sub", a.Sub(b), new(big.Int).Sub(x, y))
		sameInt(t, "Mul", a.Mul(b), new(big.Int).Mul(x, y))
		sameInt(t, "Neg", a.Neg(), new(big.Int).Neg(x))
		sameInt(t, "Abs", a.Abs(), new(big.Int).Abs(x))
		if got, want := a.Cmp(b), x.Cmp(y); got != want {
			t.Errorf("Cmp(%v, %v): got %d, want %d", a, b, got, want)
		}
		if a.Sign() != x.Sign() || a.Odd() != (x.Bit(0) == 1) || a.BitLen() != x.BitLen() {
			t.Errorf("Sign, Odd or BitLen of %v is wrong", a)
		}
		shift := r.Intn(200)
		sameInt(t, "Left", a.Left(shift), new(big.Int).Lsh(x, uint(shift)))
		sameInt(t, "right", signed(false, a.magnitude.right(shift)), new(big.Int).Rsh(new(big.Int).Abs(x), uint(shift)))
		if y.Sign() == 0 {
			continue
		}
		quotient, remainder := a.Div(b)
		q, rest := floorDiv(x, y)
		sameInt(t, "Div", quotient, q)
		sameInt(t, "Div remainder", remainder, rest)
		sameInt(t, "Quo", a.Quo(b), q)
	}
}

func TestDivisionsWithCorrections(t *testing.T) {
	r := rand.New(rand.NewSource(2))
	for range 20000 {
		// Neighbours of multiples, and divisors whose first words are special.
		b := signed(false, append(randomInt(r, 3).magnitude, 1<<63))
		factor := randomInt(r, 4)
		a := b.Mul(factor).Add(Whole(r.Intn(3) - 1))
		quotient, remainder := a.Div(b)
		q, rest := floorDiv(asBig(t, a), asBig(t, b))
		sameInt(t, "Div", quotient, q)
		sameInt(t, "Div remainder", remainder, rest)
	}
}

func TestGcd(t *testing.T) {
	r := rand.New(rand.NewSource(3))
	for range 20000 {
		common := randomInt(r, 3)
		a, b := randomInt(r, 6).Mul(common), randomInt(r, 6).Mul(common)
		x, y := asBig(t, a.Abs()), asBig(t, b.Abs())
		sameInt(t, "Gcd", a.Gcd(b), new(big.Int).GCD(nil, nil, x, y))
	}
	// Neighbours in Fibonacci's sequence need the most steps.
	a, b := Whole(1), Whole(1)
	for range 2000 {
		a, b = a.Add(b), a
		if a.Gcd(b).Cmp(Whole(1)) != 0 {
			t.Fatalf("Gcd(%v, %v) is not 1", a, b)
		}
	}
}

func TestRoot(t *testing.T) {
	r := rand.New(rand.NewSource(4))
	for range 5000 {
		a := randomInt(r, 8).Abs()
		sameInt(t, "Root", a.Root(), new(big.Int).Sqrt(asBig(t, a)))
		square := a.Mul(a)
		sameInt(t, "Root of a square", square.Root(), asBig(t, a))
		if a.Sign() > 0 {
			less := square.Sub(Whole(1))
			sameInt(t, "Root below a square", less.Root(), asBig(t, a.Sub(Whole(1))))
		}
	}
	for n := range 1000 {
		sameInt(t, "Root", Whole(n).Root(), new(big.Int).Sqrt(big.NewInt(int64(n))))
	}
	sameInt(t, "Root below 0", Whole(-4).Root(), new(big.Int))
}

func TestSmallIntegers(t *testing.T) {
	for _, n := range []int{0, 1, -1, 7, -7, math.MaxInt, math.MinInt, math.MinInt + 1} {
		sameInt(t, "Whole", Whole(n), big.NewInt(int64(n)))
		got, ok := Whole(n).Small()
		if wantOK := n != math.MinInt; ok != wantOK || ok && got != n {
			t.Errorf("Small of %d: got %d, %v", n, got, ok)
		}
	}
	if n, ok := Whole(1).Left(64).Small(); ok || n != 0 {
		t.Errorf("Small of 2^64: got %d, %v", n, ok)
	}
}

func TestEdges(t *testing.T) {
	zero := new(big.Int)
	quotient, remainder := Whole(5).Div(Int{})
	sameInt(t, "Div by 0", quotient, zero)
	sameInt(t, "Div by 0", remainder, zero)
	sameInt(t, "Left by a negative number", Whole(5).Left(-3), big.NewInt(5))
	sameInt(t, "Left of 0", Int{}.Left(100), zero)
	sameInt(t, "Power", Power(10, 3), big.NewInt(1000))
	sameInt(t, "Power 0", Power(10, 0), big.NewInt(1))
	sameInt(t, "Power below 0", Power(10, -2), big.NewInt(1))
	sameInt(t, "Power of -2", Power(-2, 3), big.NewInt(-8))
	sameInt(t, "Gcd of 0", Int{}.Gcd(Int{}), zero)
	sameInt(t, "Gcd of 0 and -6", Int{}.Gcd(Whole(-6)), big.NewInt(6))
}

func TestDigits(t *testing.T) {
	for _, digits := range []string{"0", "9", "10000000000000000000", "9999999999999999999", "18446744073709551616", strings.Repeat("9", 600), "1" + strings.Repeat("0", 600), strings.Repeat("1234567890", 77)} {
		if got := fromDigits(digits).String(); got != digits {
			t.Errorf("digits %s become %s", digits, got)
		}
	}
	if got := Whole(-12).String(); got != "-12" {
		t.Errorf("String of -12: got %s", got)
	}
}

func TestOperandsStayAsTheyAre(t *testing.T) {
	r := rand.New(rand.NewSource(5))
	for range 500 {
		a, b := randomInt(r, 5), randomInt(r, 5)
		before, other := a.String(), b.String()
		a.Add(b)
		a.Sub(b)
		a.Mul(b)
		a.Div(b)
		a.Gcd(b)
		a.Left(67)
		a.Abs().Root()
		if a.String() != before || b.String() != other {
			t.Fatalf("an operation has changed %s or %s", before, other)
		}
	}
}
