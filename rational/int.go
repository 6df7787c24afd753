// Package rational computes with integers and fractions of any size, for
// numbers on the way to a result: the limits of package api bound arguments
// and results alone.
package rational

import (
	"slices"
	"strconv"
	"strings"
)

// Int is an integer of any size. Its zero value is 0.
type Int struct {
	negative  bool
	magnitude natural
}

// signed returns an integer; 0 has no sign.
func signed(negative bool, magnitude natural) Int {
	return Int{negative && len(magnitude) > 0, magnitude}
}

// Whole returns an int as an integer of any size.
func Whole(n int) Int {
	if n < 0 {
		return signed(true, natural{-uint64(n)})
	}
	return signed(false, trimmed(natural{uint64(n)}))
}

// Power returns base^exponent, and 1 for an exponent below 1.
func Power(base, exponent int) Int {
	power := Whole(1)
	for range exponent {
		power = power.Mul(Whole(base))
	}
	return power
}

// Small returns the integer as an int, if its absolute value has at most 63
// bits.
func (a Int) Small() (int, bool) {
	switch {
	case len(a.magnitude) == 0:
		return 0, true
	case a.BitLen() > wordBits-1:
		return 0, false
	case a.negative:
		return -int(a.magnitude[0]), true
	}
	return int(a.magnitude[0]), true
}

// Sign returns -1, 0 or 1 for a number below, equal to or above 0.
func (a Int) Sign() int {
	switch {
	case len(a.magnitude) == 0:
		return 0
	case a.negative:
		return -1
	}
	return 1
}

// Odd reports whether 2 does not divide the number.
func (a Int) Odd() bool {
	return len(a.magnitude) > 0 && a.magnitude[0]%2 == 1
}

// BitLen returns the number of binary digits; 0 has none.
func (a Int) BitLen() int { return a.magnitude.bitLen() }

// Cmp compares two integers.
func (a Int) Cmp(b Int) int {
	switch {
	case a.negative && b.negative:
		return b.magnitude.compare(a.magnitude)
	case a.negative:
		return -1
	case b.negative:
		return 1
	}
	return a.magnitude.compare(b.magnitude)
}

// Neg returns -a.
func (a Int) Neg() Int { return signed(!a.negative, a.magnitude) }

// Abs returns the absolute value.
func (a Int) Abs() Int { return signed(false, a.magnitude) }

// Add returns a + b.
func (a Int) Add(b Int) Int {
	switch {
	case a.negative == b.negative:
		return signed(a.negative, a.magnitude.add(b.magnitude))
	case a.magnitude.compare(b.magnitude) >= 0:
		return signed(a.negative, a.magnitude.sub(b.magnitude))
	}
	return signed(b.negative, b.magnitude.sub(a.magnitude))
}

// Sub returns a - b.
func (a Int) Sub(b Int) Int { return a.Add(b.Neg()) }

// Mul returns a times b.
func (a Int) Mul(b Int) Int {
	return signed(a.negative != b.negative, a.magnitude.mul(b.magnitude))
}

// Div returns the greatest integer that is not above the quotient of a and b,
// and what a exceeds its product with b by; both are 0 if b is 0.
func (a Int) Div(b Int) (Int, Int) {
	if b.Sign() == 0 {
		return Int{}, Int{}
	}
	q, r := a.magnitude.div(b.magnitude)
	quotient, remainder := signed(a.negative != b.negative, q), signed(a.negative, r)
	if r.bitLen() > 0 && a.negative != b.negative {
		return quotient.Sub(Whole(1)), remainder.Add(b)
	}
	return quotient, remainder
}

// Quo returns the greatest integer that is not above the quotient of a and b;
// it is 0 if b is 0.
func (a Int) Quo(b Int) Int {
	quotient, _ := a.Div(b)
	return quotient
}

// Gcd returns the greatest common divisor of the absolute values; that of 0
// and a number is the number.
func (a Int) Gcd(b Int) Int {
	return signed(false, a.magnitude.gcd(b.magnitude))
}

// Left returns a times 2^n; it is a if n is below 0.
func (a Int) Left(n int) Int {
	return signed(a.negative, a.magnitude.left(max(n, 0)))
}

// Root returns the greatest integer whose square is at most a; it is 0 if a
// is below 0.
func (a Int) Root() Int {
	if a.negative {
		return Int{}
	}
	return signed(false, a.magnitude.root())
}

// A word holds a power of ten with this number of zeros.
const (
	chunkDigits = 19
	chunk       = 10_000_000_000_000_000_000
)

// String returns the decimal digits, after a minus sign if a is below 0.
func (a Int) String() string {
	var chunks []string
	rest, digits := a.magnitude, uint64(0)
	for len(rest) > 1 || len(rest) == 1 && rest[0] >= chunk {
		rest, digits = rest.divWord(chunk)
		text := strconv.FormatUint(digits, 10)
		chunks = append(chunks, strings.Repeat("0", chunkDigits-len(text))+text)
	}
	first := uint64(0)
	if len(rest) == 1 {
		first = rest[0]
	}
	chunks = append(chunks, strconv.FormatUint(first, 10))
	if a.negative {
		chunks = append(chunks, "-")
	}
	slices.Reverse(chunks)
	return strings.Join(chunks, "")
}

// fromDigits returns the integer with these decimal digits.
func fromDigits(digits string) Int {
	number := natural(nil)
	for len(digits) > 0 {
		length := (len(digits)-1)%chunkDigits + 1
		value := uint64(0)
		for _, digit := range []byte(digits[:length]) {
			value = 10*value + uint64(digit-'0')
		}
		number = number.mul(natural{chunk}).add(trimmed(natural{value}))
		digits = digits[length:]
	}
	return signed(false, number)
}
