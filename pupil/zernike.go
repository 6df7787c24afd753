package pupil

import (
	"lenslet/api"
	"lenslet/lists"
	"lenslet/rational"
)

// factorials has the factorials of 0 to MaxZernike.
var factorials = [MaxZernike + 1]int{1, 1, 2, 6, 24, 120, 720, 5040, 40320}

// Zernike returns a Zernike polynomial.
func Zernike(n, m int) (Poly, api.Errno) {
	switch {
	case n < 0 || n > MaxZernike, m < -n || m > n:
		return nil, api.ErrRange
	case (n-m)%2 != 0:
		return nil, api.ErrRule
	}
	k := max(m, -m)
	re, im := circular(k)
	if m < 0 {
		return radial(n, k).times(im).write()
	}
	return radial(n, k).times(re).write()
}

// DiscProduct returns the inner product of two polynomials on the full disc, in units of pi.
func DiscProduct(f, g Poly) (api.Rat, api.Errno) {
	a, b, e := readTwoPolys(f, g)
	if e != api.OK {
		return "", e
	}
	return a.discProduct(b).Write()
}

// radial returns the factor of a Zernike polynomial that depends on the
// distance from the origin alone.
func radial(n, k int) polynomial {
	square := monomial(1, 2, 0).plus(monomial(1, 0, 2))
	half := (n - k) / 2
	sum, power := polynomial{}, monomial(1, 0, 0)
	for exponent := range half + 1 {
		sum = sum.plus(power.scaled(radialFactor(n, k, half-exponent)))
		power = power.times(square)
	}
	return sum
}

// radialFactor returns the number of the term s of a radial factor.
func radialFactor(n, k, s int) int {
	divisor := factorials[s] * factorials[(n+k)/2-s] * factorials[(n-k)/2-s]
	factor := factorials[n-s] / divisor
	if s%2 == 1 {
		return -factor
	}
	return factor
}

// circular returns the real and the imaginary part of (X + iY)^k.
func circular(k int) (polynomial, polynomial) {
	x, y := monomial(1, 1, 0), monomial(1, 0, 1)
	re, im := monomial(1, 0, 0), polynomial{}
	for range k {
		re, im = re.times(x).plus(im.times(y).scaled(-1)), re.times(y).plus(im.times(x))
	}
	return re, im
}

// discProduct returns the inner product on the full disc.
func (f polynomial) discProduct(g polynomial) rational.Ratio {
	products := lists.Mapped(f, func(a part) rational.Ratio {
		means := lists.Mapped(g, func(b part) rational.Ratio {
			return b.c.Mul(discIntegral(a.i+b.i, a.j+b.j))
		})
		return a.c.Mul(lists.Sum(means, rational.Ratio.Add))
	})
	return lists.Sum(products, rational.Ratio.Add)
}

// discIntegral returns the integral of X^a Y^b over the full disc, in units of pi.
func discIntegral(a, b int) rational.Ratio {
	if a%2 == 1 || b%2 == 1 {
		return rational.Ratio{}
	}
	above := rational.Whole(2).Mul(doubleFactorial(a - 1)).Mul(doubleFactorial(b - 1))
	return rational.Fraction(above, doubleFactorial(a+b+2))
}

// doubleFactorial returns the product of k, k - 2 and so on.
func doubleFactorial(k int) rational.Int {
	product := rational.Whole(1)
	for ; k > 1; k -= 2 {
		product = product.Mul(rational.Whole(k))
	}
	return product
}
