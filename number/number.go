// Package number is layer 1: see shared/doc/01-number.md.
package number

import (
	"lenslet/api"
	"lenslet/lists"
	"lenslet/rational"
)

// MaxDecimals is the greatest number of decimals.
const MaxDecimals = 12

// IsName reports whether a string is a name.
func IsName(s string) bool {
	if s == "" || len(s) > api.MaxName {
		return false
	}
	for i, c := range s {
		letter := c >= 'a' && c <= 'z' || c >= 'A' && c <= 'Z'
		other := c >= '0' && c <= '9' || c == '_'
		if !letter && (i == 0 || !other) {
			return false
		}
	}
	return true
}

// Check returns the first error of a number, or OK.
func Check(a api.Rat) api.Errno {
	_, e := rational.Read(a)
	return e
}

// Of returns the quotient of two integers.
func Of(num, den int) (api.Rat, api.Errno) {
	if den == 0 {
		return "", api.ErrZero
	}
	return rational.Fraction(rational.Whole(num), rational.Whole(den)).Write()
}

// Add returns the sum of two numbers.
func Add(a, b api.Rat) (api.Rat, api.Errno) { return onNumbers(a, b, rational.Ratio.Add) }

// Sub returns the difference of two numbers.
func Sub(a, b api.Rat) (api.Rat, api.Errno) { return onNumbers(a, b, rational.Ratio.Sub) }

// Mul returns the product of two numbers.
func Mul(a, b api.Rat) (api.Rat, api.Errno) { return onNumbers(a, b, rational.Ratio.Mul) }

// Div returns the quotient of two numbers.
func Div(a, b api.Rat) (api.Rat, api.Errno) {
	x, y, e := readTwo(a, b)
	if e != api.OK {
		return "", e
	}
	if y.Sign() == 0 {
		return "", api.ErrZero
	}
	return x.Div(y).Write()
}

// Order compares two numbers.
func Order(a, b api.Rat) (int, api.Errno) {
	x, y, e := readTwo(a, b)
	if e != api.OK {
		return 0, e
	}
	return x.Cmp(y), api.OK
}

// Floor returns the greatest integer that is not above a number.
func Floor(a api.Rat) (api.Rat, api.Errno) {
	x, e := rational.Read(a)
	if e != api.OK {
		return "", e
	}
	return rational.Integer(x.Floor()).Write()
}

// Draw returns a pseudorandom permutation of n elements.
func Draw(key, n int) ([]int, api.Errno) {
	const factor, modulus = 39373, 2147483647
	if key < 1 || key >= modulus || n < 0 || n > api.MaxList {
		return nil, api.ErrRange
	}
	list := upTo(n)
	x := key
	for i := n - 1; i > 0; i-- {
		x = factor * x % modulus
		other := x % (i + 1)
		list[i], list[other] = list[other], list[i]
	}
	return list, api.OK
}

// upTo returns the integers from 0 to n - 1.
func upTo(n int) []int {
	list := make([]int, n)
	for i := range list {
		list[i] = i
	}
	return list
}

// operation is an operation on two fractions of any size.
type operation func(a, b rational.Ratio) rational.Ratio

// onNumbers returns the result of an operation on two numbers.
func onNumbers(a, b api.Rat, of operation) (api.Rat, api.Errno) {
	x, y, e := readTwo(a, b)
	if e != api.OK {
		return "", e
	}
	return of(x, y).Write()
}

// readTwo returns the fractions that two numbers stand for, or the first error.
func readTwo(a, b api.Rat) (rational.Ratio, rational.Ratio, api.Errno) {
	x, ex := rational.Read(a)
	y, ey := rational.Read(b)
	if e := lists.FirstError(ex, ey); e != api.OK {
		return rational.Ratio{}, rational.Ratio{}, e
	}
	return x, y, api.OK
}
