package rational

import (
	"strings"

	"lenslet/api"
	"lenslet/lists"
)

// Ratio is a fraction of any size in lowest terms. Its zero value is 0.
type Ratio struct {
	num Int
	den natural // 1 if it is empty
}

// Fraction returns the quotient of two integers; it is 0 if the second one is 0.
func Fraction(num, den Int) Ratio {
	if den.Sign() == 0 {
		return Ratio{}
	}
	negative := num.negative != den.negative
	common := num.Gcd(den)
	num, den = num.Abs(), den.Abs()
	if common.BitLen() > 1 {
		num, den = num.Quo(common), den.Quo(common)
	}
	return Ratio{signed(negative, num.magnitude), den.magnitude}
}

// Integer returns an integer as a fraction.
func Integer(n Int) Ratio { return Ratio{num: n} }

// One returns 1.
func One() Ratio { return Integer(Whole(1)) }

// Num returns the numerator.
func (a Ratio) Num() Int { return a.num }

// Den returns the denominator, which is above 0.
func (a Ratio) Den() Int {
	if len(a.den) == 0 {
		return Whole(1)
	}
	return signed(false, a.den)
}

// isWhole reports whether the denominator is 1.
func (a Ratio) isWhole() bool { return a.den.bitLen() <= 1 }

// Sign returns -1, 0 or 1 for a number below, equal to or above 0.
func (a Ratio) Sign() int { return a.num.Sign() }

// Cmp compares two numbers.
func (a Ratio) Cmp(b Ratio) int {
	if a.Sign() != b.Sign() || a.isWhole() && b.isWhole() {
		return a.num.Cmp(b.num)
	}
	return a.num.Mul(b.Den()).Cmp(b.num.Mul(a.Den()))
}

// Neg returns -a.
func (a Ratio) Neg() Ratio { return Ratio{a.num.Neg(), a.den} }

// Abs returns the absolute value.
func (a Ratio) Abs() Ratio { return Ratio{a.num.Abs(), a.den} }

// Add returns a + b. The denominator of the sum can be shortened by a divisor
// of what the denominators have in common alone, which is short (Knuth).
func (a Ratio) Add(b Ratio) Ratio {
	if a.isWhole() && b.isWhole() {
		return Integer(a.num.Add(b.num))
	}
	common := a.Den().Gcd(b.Den())
	left, right := a.Den().Quo(common), b.Den().Quo(common)
	num := a.num.Mul(right).Add(b.num.Mul(left))
	rest := num.Gcd(common)
	return Ratio{num.Quo(rest), left.Mul(b.Den().Quo(rest)).magnitude}
}

// Sub returns a - b.
func (a Ratio) Sub(b Ratio) Ratio { return a.Add(b.Neg()) }

// Mul returns a times b. A numerator has common divisors with the denominator
// of the other number alone.
func (a Ratio) Mul(b Ratio) Ratio {
	if a.isWhole() && b.isWhole() {
		return Integer(a.num.Mul(b.num))
	}
	left, right := a.num.Gcd(b.Den()), b.num.Gcd(a.Den())
	num := a.num.Quo(left).Mul(b.num.Quo(right))
	return Ratio{num, a.Den().Quo(right).Mul(b.Den().Quo(left)).magnitude}
}

// Div returns the quotient of a and b; it is 0 if b is 0.
func (a Ratio) Div(b Ratio) Ratio {
	if b.Sign() == 0 {
		return Ratio{}
	}
	return a.Mul(Ratio{signed(b.Sign() < 0, b.Den().magnitude), b.num.magnitude})
}

// Floor returns the greatest integer that is not above a.
func (a Ratio) Floor() Int { return a.num.Quo(a.Den()) }

// Max returns the greater one of two numbers.
func Max(a, b Ratio) Ratio {
	if a.Cmp(b) < 0 {
		return b
	}
	return a
}

// Min returns the lesser one of two numbers.
func Min(a, b Ratio) Ratio {
	if a.Cmp(b) > 0 {
		return b
	}
	return a
}

// Denominator returns the least common multiple of the denominators of
// numbers; it is 1 if there are none.
func Denominator(list []Ratio) Int {
	multiple := Whole(1)
	for _, x := range list {
		multiple = multiple.Mul(x.Den().Quo(multiple.Gcd(x.Den())))
	}
	return multiple
}

// Integers returns how many times numbers contain the greatest number of which
// all of them are multiples by integers, and that number; it is 1 if all are 0.
func Integers(list []Ratio) ([]Int, Ratio) {
	multiple, common := Denominator(list), Int{}
	for _, x := range list {
		common = common.Gcd(x.num)
	}
	if common.Sign() == 0 {
		common = Whole(1)
	}
	counts := lists.Mapped(list, func(x Ratio) Int {
		return x.num.Quo(common).Mul(multiple.Quo(x.Den()))
	})
	return counts, Fraction(common, multiple)
}

// Dot returns the sum of the products of the elements of two lists of the same
// length.
func Dot(a, b []Ratio) Ratio { return lists.Dot(a, b, Ratio.Mul, Ratio.Add) }

// Mean returns the mean of numbers, and 0 if there are none.
func Mean(list []Ratio) Ratio {
	return lists.Sum(list, Ratio.Add).Div(Integer(Whole(len(list))))
}

// Read returns the fraction that a number of package api stands for, or the
// first error of the number.
func Read(a api.Rat) (Ratio, api.Errno) {
	digits, negative := strings.CutPrefix(string(a), "-")
	num, den, split := strings.Cut(digits, "/")
	switch {
	case !isDecimal(num) || negative && num == "0":
		return Ratio{}, api.ErrForm
	case split && (!isDecimal(den) || den == "0" || den == "1"):
		return Ratio{}, api.ErrForm
	case len(num) > api.MaxDigits || len(den) > api.MaxDigits:
		return Ratio{}, api.ErrLarge
	}
	numerator := signed(negative, fromDigits(num).magnitude)
	if !split {
		return Integer(numerator), api.OK
	}
	denominator := fromDigits(den)
	if numerator.Gcd(denominator).BitLen() > 1 {
		return Ratio{}, api.ErrForm
	}
	return Ratio{numerator, denominator.magnitude}, api.OK
}

// ReadAll returns the fractions that numbers stand for, or the error of the
// first number with one.
func ReadAll(list []api.Rat) ([]Ratio, api.Errno) {
	return lists.Checked(list, Read)
}

// ReadPositive returns the fraction that a number stands for which must be
// above 0, or its first error.
func ReadPositive(a api.Rat) (Ratio, api.Errno) {
	x, e := Read(a)
	if e == api.OK && x.Sign() <= 0 {
		return Ratio{}, api.ErrRange
	}
	return x, e
}

// ReadAmount returns the fraction that a number stands for which must be at
// least 0, or its first error.
func ReadAmount(a api.Rat) (Ratio, api.Errno) {
	x, e := Read(a)
	if e == api.OK && x.Sign() < 0 {
		return Ratio{}, api.ErrRange
	}
	return x, e
}

// ReadPart returns the fraction that a number stands for which must be from 0
// to 1, or its first error.
func ReadPart(a api.Rat) (Ratio, api.Errno) {
	x, e := ReadAmount(a)
	if e == api.OK && x.Cmp(One()) > 0 {
		return Ratio{}, api.ErrRange
	}
	return x, e
}

// isDecimal reports whether a text is a decimal integer without leading zeros.
func isDecimal(text string) bool {
	if text == "" || text[0] == '0' && len(text) > 1 {
		return false
	}
	for _, c := range []byte(text) {
		if c < '0' || c > '9' {
			return false
		}
	}
	return true
}

// Write returns the number of package api that stands for a fraction, or
// ErrLarge if it has too many digits.
func (a Ratio) Write() (api.Rat, api.Errno) {
	num, den := a.num.Abs(), a.Den()
	// Four bits hold a decimal digit: a longer number need not be written out.
	if max(num.BitLen(), den.BitLen()) > 4*api.MaxDigits {
		return "", api.ErrLarge
	}
	text, below := num.String(), den.String()
	if max(len(text), len(below)) > api.MaxDigits {
		return "", api.ErrLarge
	}
	if a.Sign() < 0 {
		text = "-" + text
	}
	if a.isWhole() {
		return api.Rat(text), api.OK
	}
	return api.Rat(text + "/" + below), api.OK
}

// WriteAll returns the numbers that stand for fractions, or ErrLarge.
func WriteAll(list []Ratio) ([]api.Rat, api.Errno) {
	return lists.Checked(list, Ratio.Write)
}

// WriteMatrix returns the matrix with these numbers, or ErrLarge. The numbers
// are asked for row by row, up to the first one that is too large.
func WriteMatrix(rows, columns int, at func(i, j int) Ratio) ([][]api.Rat, api.Errno) {
	m := make([][]api.Rat, rows)
	for i := range m {
		m[i] = make([]api.Rat, columns)
		for j := range m[i] {
			a, e := at(i, j).Write()
			if e != api.OK {
				return nil, e
			}
			m[i][j] = a
		}
	}
	return m, api.OK
}
