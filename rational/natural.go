package rational

import (
	"cmp"
	"math/bits"
	"slices"
)

const wordBits = 64

// natural is a natural number: its words, the least significant one first,
// without leading zeros. Its words are not changed once it is complete, so
// that naturals may share them.
type natural []uint64

// trimmed returns a number without its leading zeros.
func trimmed(a natural) natural {
	for len(a) > 0 && a[len(a)-1] == 0 {
		a = a[:len(a)-1]
	}
	return a
}

func (a natural) bitLen() int {
	if len(a) == 0 {
		return 0
	}
	return len(a)*wordBits - bits.LeadingZeros64(a[len(a)-1])
}

func (a natural) compare(b natural) int {
	if len(a) != len(b) {
		return cmp.Compare(len(a), len(b))
	}
	for i := len(a) - 1; i >= 0; i-- {
		if a[i] != b[i] {
			return cmp.Compare(a[i], b[i])
		}
	}
	return 0
}

func (a natural) add(b natural) natural {
	if len(a) < len(b) {
		a, b = b, a
	}
	sum := make(natural, len(a)+1)
	copy(sum, a)
	sum[len(a)] = addTo(sum[:len(a)], b)
	return trimmed(sum)
}

// addTo adds b to the words of sum, which are at least as many, and returns
// the carry.
func addTo(sum, b natural) uint64 {
	carry := uint64(0)
	for i := range sum {
		if i >= len(b) && carry == 0 {
			break
		}
		word := uint64(0)
		if i < len(b) {
			word = b[i]
		}
		sum[i], carry = bits.Add64(sum[i], word, carry)
	}
	return carry
}

// sub returns a - b; b is at most a.
func (a natural) sub(b natural) natural {
	difference := slices.Clone(a)
	borrow := uint64(0)
	for i := range difference {
		if i >= len(b) && borrow == 0 {
			break
		}
		word := uint64(0)
		if i < len(b) {
			word = b[i]
		}
		difference[i], borrow = bits.Sub64(difference[i], word, borrow)
	}
	return trimmed(difference)
}

func (a natural) mul(b natural) natural {
	product := make(natural, len(a)+len(b))
	for i, word := range a {
		product[i+len(b)] = addProduct(product[i:i+len(b)], b, word)
	}
	return trimmed(product)
}

// addProduct adds b times factor to the words of sum, which are as many as
// those of b, and returns the carry.
func addProduct(sum, b natural, factor uint64) uint64 {
	carry := uint64(0)
	for i, word := range b {
		high, low := bits.Mul64(word, factor)
		low, over := bits.Add64(low, sum[i], 0)
		high += over
		low, over = bits.Add64(low, carry, 0)
		sum[i] = low
		carry = high + over
	}
	return carry
}

// subProduct takes b times factor from the words of rest, which are as many
// as those of b, and returns the borrow.
func subProduct(rest, b natural, factor uint64) uint64 {
	borrow := uint64(0)
	for i, word := range b {
		high, low := bits.Mul64(word, factor)
		low, over := bits.Add64(low, borrow, 0)
		high += over
		rest[i], over = bits.Sub64(rest[i], low, 0)
		borrow = high + over
	}
	return borrow
}

// div returns the quotient and the remainder of a and b; b is not 0.
func (a natural) div(b natural) (natural, natural) {
	if a.compare(b) < 0 {
		return nil, a
	}
	if len(b) == 1 {
		quotient, remainder := a.divWord(b[0])
		return quotient, trimmed(natural{remainder})
	}
	// With the highest bit of the divisor set, the quotient of the leading
	// words is at most 2 above the word of the quotient.
	shift := bits.LeadingZeros64(b[len(b)-1])
	divisor := b.left(shift)
	rest := make(natural, len(a)+1)
	copy(rest, a.left(shift))
	quotient := make(natural, len(a)-len(b)+1)
	for i := len(quotient) - 1; i >= 0; i-- {
		quotient[i] = takeMultiple(rest[i:i+len(b)+1], divisor)
	}
	return trimmed(quotient), trimmed(rest).right(shift)
}

// divWord returns the quotient and the remainder of a and a word that is not 0.
func (a natural) divWord(b uint64) (natural, uint64) {
	quotient := make(natural, len(a))
	remainder := uint64(0)
	for i := len(a) - 1; i >= 0; i-- {
		quotient[i], remainder = bits.Div64(remainder, a[i], b)
	}
	return trimmed(quotient), remainder
}

// takeMultiple takes the greatest possible multiple of the divisor from rest,
// which has one word more, and returns the factor; it is below 2^64.
func takeMultiple(rest, divisor natural) uint64 {
	n := len(divisor)
	factor := ^uint64(0)
	if rest[n] < divisor[n-1] {
		factor, _ = bits.Div64(rest[n], rest[n-1], divisor[n-1])
	}
	borrow := subProduct(rest[:n], divisor, factor)
	top := rest[n]
	for top < borrow {
		borrow -= addTo(rest[:n], divisor)
		factor--
	}
	rest[n] = 0
	return factor
}

// left returns a times 2^n; n is at least 0.
func (a natural) left(n int) natural {
	if len(a) == 0 {
		return nil
	}
	words, shift := n/wordBits, n%wordBits
	shifted := make(natural, len(a)+words+1)
	for i, word := range a {
		shifted[i+words] |= word << shift
		shifted[i+words+1] = word >> (wordBits - shift)
	}
	return trimmed(shifted)
}

// right returns the integer part of a / 2^n; n is at least 0.
func (a natural) right(n int) natural {
	words, shift := n/wordBits, n%wordBits
	if words >= len(a) {
		return nil
	}
	shifted := slices.Clone(a[words:])
	for i := range shifted {
		above := uint64(0)
		if i+1 < len(shifted) {
			above = shifted[i+1]
		}
		shifted[i] = shifted[i]>>shift | above<<(wordBits-shift)
	}
	return trimmed(shifted)
}

// root returns the greatest number whose square is at most a.
func (a natural) root() natural {
	if len(a) == 0 {
		return nil
	}
	// Newton's steps fall from a number above the root until they reach it.
	guess := natural{1}.left((a.bitLen() + 1) / 2)
	for {
		quotient, _ := a.div(guess)
		next := guess.add(quotient).right(1)
		if next.compare(guess) >= 0 {
			return guess
		}
		guess = next
	}
}
