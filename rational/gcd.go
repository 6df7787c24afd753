package rational

import "math/bits"

// gcd returns the greatest common divisor; that of 0 and a number is the number.
func (a natural) gcd(b natural) natural {
	if a.compare(b) < 0 {
		a, b = b, a
	}
	for len(b) > 1 {
		s := steps(a, b)
		if s.v0 == 0 {
			_, remainder := a.div(b)
			a, b = b, remainder
		} else {
			a, b = combine(a, b, s.u0, s.v0), combine(a, b, s.u1, s.v1)
		}
	}
	if len(b) == 0 {
		return a
	}
	_, remainder := a.divWord(b[0])
	return natural{gcdWords(b[0], remainder)}
}

func gcdWords(a, b uint64) uint64 {
	for b != 0 {
		a, b = b, a%b
	}
	return a
}

// stepped says what some steps of Euclid's algorithm make of the numbers a
// and b: the differences of u0 a and v0 b, and of u1 a and v1 b, the lesser
// taken from the greater. If v0 is 0, no step is certain.
type stepped struct {
	u0, v0 uint64
	u1, v1 uint64
}

// steps makes the steps of Euclid's algorithm that the leading words of a and
// b determine (Lehmer's algorithm). It stops where the words below might
// change the next quotient (Collins's condition). a is at least b, b has at
// least two words.
func steps(a, b natural) stepped {
	shift := len(a)*wordBits - a.bitLen()
	x, y := leading(a, len(a), shift), leading(b, len(a), shift)
	s := stepped{u0: 0, v0: 0, u1: 1, v1: 0}
	u2, v2 := uint64(0), uint64(1)
	for y >= v2 && x-y >= s.v1+v2 {
		quotient, remainder := x/y, x%y
		x, y = y, remainder
		s.u0, s.u1, u2 = s.u1, u2, s.u1+quotient*u2
		s.v0, s.v1, v2 = s.v1, v2, s.v1+quotient*v2
	}
	return s
}

// leading returns the bits of a number of n words that remain in the word
// with the index n - 1 when it is shifted to the left; n is at least 2.
func leading(a natural, n, shift int) uint64 {
	high, low := uint64(0), uint64(0)
	if n-1 < len(a) {
		high = a[n-1]
	}
	if n-2 < len(a) {
		low = a[n-2]
	}
	return high<<shift | low>>(wordBits-shift)
}

// combine returns the difference of u a and v b, the lesser taken from the
// greater. a has at least as many words as b.
func combine(a, b natural, u, v uint64) natural {
	difference := make(natural, len(a)+1)
	left, right, borrow := uint64(0), uint64(0), uint64(0)
	for i, word := range a {
		other := uint64(0)
		if i < len(b) {
			other = b[i]
		}
		var x, y uint64
		left, x = mulAdd(word, u, left)
		right, y = mulAdd(other, v, right)
		difference[i], borrow = bits.Sub64(x, y, borrow)
	}
	difference[len(a)], borrow = bits.Sub64(left, right, borrow)
	if borrow != 0 {
		difference.negate()
	}
	return trimmed(difference)
}

// mulAdd returns both words of a b + c.
func mulAdd(a, b, c uint64) (uint64, uint64) {
	high, low := bits.Mul64(a, b)
	low, carry := bits.Add64(low, c, 0)
	return high + carry, low
}

// negate takes the number from the power of 2 that its words do not hold.
func (a natural) negate() {
	borrow := uint64(0)
	for i, word := range a {
		a[i], borrow = bits.Sub64(0, word, borrow)
	}
}
