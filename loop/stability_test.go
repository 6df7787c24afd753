package loop_test

import (
	"math/big"
	"math/rand"
	"strings"
	"testing"

	"lenslet/api"
	"lenslet/loop"
)

// P6.2: stability.

func TestErrorsOfStability(t *testing.T) {
	good := numbers{"1", "2"}
	for _, bad := range badPolys() {
		fails[bool](t, "Stable", bad.e)(loop.Stable(bad.list))
		fails[api.Span](t, "Radius", bad.e)(loop.Radius(bad.list, 0))
		fails[api.Rat](t, "Decay", bad.e)(loop.Decay(bad.list, -1))
	}
	for _, n := range []int{-1 << 63, -1, 0, 4, 1<<63 - 1} {
		fails[api.Span](t, "Radius", api.ErrRange)(loop.Radius(good, n))
		fails[api.Span](t, "Radius of a number", api.ErrRange)(loop.Radius(numbers{"1"}, n))
	}
	for _, n := range []int{-1 << 63, -1, 33, 1<<63 - 1} {
		fails[api.Rat](t, "Decay", api.ErrRange)(loop.Decay(good, n))
		fails[api.Rat](t, "Decay of a number", api.ErrRange)(loop.Decay(numbers{"1"}, n))
	}
	for n := range 3 {
		fails[api.Span](t, "Radius of a number", api.ErrNone)(loop.Radius(numbers{"-1/2"}, n+1))
		fails[api.Rat](t, "Decay of a number", api.ErrNone)(loop.Decay(numbers{"-1/2"}, n))
	}
}

func TestStable(t *testing.T) {
	for _, row := range []struct {
		p    numbers
		want bool
	}{
		{numbers{"-1/6", "-1/6", "1"}, true}, {numbers{"1", "1"}, false}, {numbers{"-1", "1"}, false}, {numbers{"5"}, true}, {numbers{"-" + tenthTo(599)}, true},
		{numbers{"0", "1"}, true}, {append(filled(12, "0"), "-3"), true}, {numbers{"1", "0", "1"}, false}, {numbers{"1", "1", "1"}, false},
		{numbers{"1/2", "0", "1"}, true}, {numbers{"2", "0", "1"}, false}, {numbers{"1", "2"}, true}, {numbers{"-1", "-2"}, true}, {numbers{"2", "-1"}, false},
		// The product of all roots is small, but one of them is not.
		{numbers{"0", "-2", "1"}, false}, {numbers{"0", "-1", "1"}, false}, {numbers{"1/5", "-21/10", "1"}, false}, {numbers{"0", "0", "1", "1"}, false},
		// Roots on both sides, whose product is 1.
		{numbers{"1", "-5/2", "1"}, false}, {numbers{"1", "0", "-17/4", "0", "1"}, false},
		{append(numbers{"1"}, append(filled(11, "0"), "2")...), true}, {append(numbers{"1"}, append(filled(11, "0"), "1")...), false}, {filled(13, "1"), false},
	} {
		same(t, "Stable", sure[bool](t)(loop.Stable(row.p)), row.want)
	}
}

func TestStableOfRandomPolynomials(t *testing.T) {
	count := map[bool]int{}
	several(t, 4, 1500, func(r *rand.Rand) {
		p := randomPoly(r, r.Intn(13))
		stable := sure[bool](t)(loop.Stable(allFromBig(p)))
		if stable != isStable(p) {
			t.Errorf("Stable of %v: got %v", allFromBig(p), stable)
		}
		count[stable]++
	})
	if count[true] < 300 || count[false] < 300 {
		t.Errorf("%d stable polynomials, %d others", count[true], count[false])
	}
}

// nearly returns 1 - 10^-digits.
func nearly(digits int) *big.Rat {
	power := new(big.Int).Exp(big.NewInt(10), big.NewInt(int64(digits)), nil)
	return sub(one(), new(big.Rat).SetFrac(big.NewInt(1), power))
}

// pair returns the polynomial of a pair of roots with the magnitude r, and a
// cosine of 3/5.
func pair(r *big.Rat) values {
	return values{mul(r, r), mul(r, big.NewRat(-6, 5)), one()}
}

// TestStableNearTheCircle has roots that differ from the unit circle by less
// and less, and by nothing.
func TestStableNearTheCircle(t *testing.T) {
	for _, digits := range []int{1, 15, 40, 99, 200, 299} {
		inside := nearly(digits)
		outside := sub(big.NewRat(2, 1), inside)
		for _, row := range []struct {
			p    values
			want bool
		}{
			{values{inside, one()}, true}, {values{outside, one()}, false}, {product(values{inside, one()}, values{sub(new(big.Rat), inside), one()}), true},
			{pair(inside), true}, {pair(one()), false}, {pair(outside), false},
		} {
			p := product(row.p, values{big.NewRat(1, 7), big.NewRat(1, 2), one()}, values{big.NewRat(-1, 3), one()})
			same(t, "Stable", sure[bool](t)(loop.Stable(allFromBig(p))), row.want)
			same(t, "Stable of the factor", sure[bool](t)(loop.Stable(allFromBig(row.p))), row.want)
		}
	}
}

// longDecimal returns a number below 1 with so many random decimals.
func longDecimal(r *rand.Rand, digits int) *big.Rat {
	text := strings.Builder{}
	for range digits {
		text.WriteByte(byte('0' + r.Intn(10)))
	}
	x, _ := new(big.Rat).SetString("0." + text.String())
	return x
}

// TestStableOfLongNumbers has numbers whose reduction is much longer, and
// roots on the unit circle that come last, or ten times nearer to it than the
// numbers have digits.
func TestStableOfLongNumbers(t *testing.T) {
	several(t, 5, 3, func(r *rand.Rand) {
		small := values{one()}
		for range 8 {
			small = product(small, values{mul(longDecimal(r, 30), big.NewRat(1, 2)), one()})
		}
		for _, row := range []struct {
			factor values
			want   bool
		}{{pair(one()), false}, {pair(nearly(100)), true}, {pair(sub(big.NewRat(2, 1), nearly(100))), false}, {values{one(), one()}, false}} {
			p := product(small, row.factor)
			same(t, "Stable", sure[bool](t)(loop.Stable(allFromBig(p))), row.want)
		}
		long := values{}
		for range 12 {
			long = append(long, longDecimal(r, 599))
		}
		same(t, "Stable", sure[bool](t)(loop.Stable(allFromBig(append(long, big.NewRat(12, 1))))), true)
		same(t, "Stable", sure[bool](t)(loop.Stable(allFromBig(append(long, big.NewRat(1, 12))))), false)
	})
}

func TestRadius(t *testing.T) {
	for _, row := range []struct {
		p        numbers
		decimals int
		want     api.Span
	}{
		{numbers{"-1/6", "-1/6", "1"}, 1, api.Span{Low: "1/2", High: "3/5"}}, {numbers{"-1/6", "-1/6", "1"}, 3, api.Span{Low: "1/2", High: "501/1000"}},
		{numbers{"0", "1"}, 1, api.Span{Low: "0", High: "1/10"}}, {append(filled(12, "0"), "7"), 3, api.Span{Low: "0", High: "1/1000"}},
		{numbers{"1", "10"}, 1, api.Span{Low: "1/10", High: "1/5"}}, {numbers{"1", "11"}, 1, api.Span{Low: "0", High: "1/10"}},
		{numbers{"1", "1"}, 2, api.Span{Low: "1", High: "101/100"}}, {numbers{"-2", "0", "1"}, 3, api.Span{Low: "707/500", High: "283/200"}}, {numbers{"2", "0", "1"}, 1, api.Span{Low: "7/5", High: "3/2"}},
		{numbers{"-999", "1000"}, 3, api.Span{Low: "999/1000", High: "1"}}, {numbers{"-9989", "10000"}, 3, api.Span{Low: "499/500", High: "999/1000"}},
		{numbers{tenTo(100), "1"}, 1, api.Span{Low: tenTo(100), High: "1" + api.Rat(strings.Repeat("0", 100)) + "1/10"}},
	} {
		same(t, "Radius", sure[api.Span](t)(loop.Radius(row.p, row.decimals)), row.want)
	}
}

func TestLargeRadius(t *testing.T) {
	low := tenTo(598)
	same(t, "Radius at the limit", sure[api.Span](t)(loop.Radius(numbers{"-" + low, "1"}, 1)), api.Span{Low: low, High: low + "1/10"})
	fails[api.Span](t, "Radius of 602 digits", api.ErrLarge)(loop.Radius(numbers{"-" + low, "1"}, 2))
	fails[api.Span](t, "Radius of 601 digits", api.ErrLarge)(loop.Radius(numbers{nines(600), "1"}, 1))
	fails[api.Span](t, "Radius of 1199 digits", api.ErrLarge)(loop.Radius(numbers{"1" + tenTo(599)[1:], tenthTo(599)}, 3))
	fails[api.Span](t, "Radius of many digits", api.ErrLarge)(loop.Radius(append(filled(12, nines(600)), tenthTo(599)), 3))
	// The higher end is the integer 10^599, the lower one has 601 digits.
	fails[api.Span](t, "Radius of 601 digits", api.ErrLarge)(loop.Radius(numbers{tenTo(600)[:600] + "1", "1"}, 1))
	root := div(sub(asBig(t, tenTo(599)), big.NewRat(1, 200)), one())
	fails[api.Span](t, "Radius with a long lower end", api.ErrLarge)(loop.Radius(allFromBig(values{mul(root, asBig(t, tenthTo(5))), asBig(t, tenthTo(5))}), 1))
	same(t, "Radius of a small root", sure[api.Span](t)(loop.Radius(numbers{tenthTo(599), tenTo(599)}, 3)), api.Span{Low: "0", High: "1/1000"})
}

// TestRadiusOfRandomPolynomials compares with the stability of polynomials
// whose roots are scaled.
func TestRadiusOfRandomPolynomials(t *testing.T) {
	several(t, 6, 150, func(r *rand.Rand) {
		p, decimals := randomPoly(r, r.Intn(12)+1), r.Intn(3)+1
		span := sure[api.Span](t)(loop.Radius(allFromBig(p), decimals))
		low, high := asBig(t, span.Low), asBig(t, span.High)
		width := []string{"1/10", "1/100", "1/1000"}[decimals-1]
		if sub(high, low).RatString() != width || !mul(low, div(one(), sub(high, low))).IsInt() {
			t.Errorf("Radius with %d decimals: got %v", decimals, span)
		}
		if !isStable(scaledBig(p, high)) || low.Sign() > 0 && isStable(scaledBig(p, low)) {
			t.Errorf("Radius of %v: got %v", allFromBig(p), span)
		}
	})
}

func scaledBig(p values, by *big.Rat) values {
	list, power := values{}, one()
	for _, c := range p {
		list = append(list, mul(c, power))
		power = mul(power, by)
	}
	return list
}

func TestDecay(t *testing.T) {
	p := numbers{"-1/6", "-1/6", "1"}
	for n, want := range []api.Rat{"1", "1", "1/3"} {
		same(t, "Decay", sure[api.Rat](t)(loop.Decay(p, n)), want)
	}
	same(t, "Decay of a root", sure[api.Rat](t)(loop.Decay(numbers{"3", "2"}, 3)), "27/8")
	same(t, "Decay of 0", sure[api.Rat](t)(loop.Decay(numbers{"0", "5"}, 1)), "0")
	same(t, "Decay with the power 0", sure[api.Rat](t)(loop.Decay(numbers{"7", "5"}, 0)), "1")
	same(t, "Decay of 12 zeros", sure[api.Rat](t)(loop.Decay(append(filled(12, "0"), "-2"), 11)), "1")
	same(t, "Decay of 12 zeros", sure[api.Rat](t)(loop.Decay(append(filled(12, "0"), "-2"), 12)), "0")
	same(t, "Decay with the power 32", sure[api.Rat](t)(loop.Decay(numbers{"-1", "-2"}, 32)), "1/4294967296")
	fails[api.Rat](t, "Decay", api.ErrLarge)(loop.Decay(numbers{tenTo(300), "1"}, 2))
	fails[api.Rat](t, "Decay", api.ErrLarge)(loop.Decay(numbers{"1", tenTo(20)}, 30))
	same(t, "Decay at the limit", sure[api.Rat](t)(loop.Decay(numbers{"-" + tenTo(19), "1"}, 31)), tenTo(589))
	// Numbers on the way may be larger.
	long := numbers{"1/" + nines(600), "1/" + nines(599), "-" + nines(600)}
	fails[api.Rat](t, "Decay of long numbers", api.ErrLarge)(loop.Decay(long, 5))
	same(t, "Decay of long numbers", sure[api.Rat](t)(loop.Decay(numbers{"0", "0", nines(600)}, 32)), "0")
	same(t, "Decay of numbers of 1200 digits", sure[api.Rat](t)(loop.Decay(numbers{nines(600), "1/" + nines(600), "2"}, 0)), "1")
}

// companion returns the companion matrix.
func companion(p values) []values {
	degree := len(p) - 1
	m := make([]values, degree)
	for i := range m {
		m[i] = zeros(degree)
		if i < degree-1 {
			m[i][i+1] = one()
			continue
		}
		for k := range degree {
			m[i][k] = new(big.Rat).Neg(div(p[k], p[degree]))
		}
	}
	return m
}

// norm returns the norm of a power of a matrix, by multiplications alone.
func norm(m []values, n int) *big.Rat {
	power := make([]values, len(m))
	for i := range power {
		power[i] = zeros(len(m))
		power[i][i] = one()
	}
	for range n {
		next := make([]values, len(m))
		for i, row := range power {
			next[i] = zeros(len(m))
			for j, x := range row {
				for k, y := range m[j] {
					next[i][k] = add(next[i][k], mul(x, y))
				}
			}
		}
		power = next
	}
	greatest := new(big.Rat)
	for _, row := range power {
		sum := new(big.Rat)
		for _, x := range row {
			sum = add(sum, new(big.Rat).Abs(x))
		}
		if sum.Cmp(greatest) > 0 {
			greatest = sum
		}
	}
	return greatest
}

func TestDecayOfRandomPolynomials(t *testing.T) {
	several(t, 7, 150, func(r *rand.Rand) {
		p, n := randomPoly(r, r.Intn(12)+1), r.Intn(loop.MaxPower+1)
		sameNumber(t, "Decay", norm(companion(p), n))(loop.Decay(allFromBig(p), n))
	})
}
