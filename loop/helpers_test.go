package loop_test

import (
	"math/big"
	"math/rand"
	"reflect"
	"slices"
	"strings"
	"testing"

	"lenslet/api"
	"lenslet/loop"
	"lenslet/number"
)

type (
	Loop    = loop.Loop
	numbers = []api.Rat
	// values are numbers of package big, such as the coefficients of a polynomial.
	values = []*big.Rat
)

// same reports a result that differs from the expected one; a nil slice and
// an empty one are the same.
func same[T any](t *testing.T, what string, got, want T) {
	t.Helper()
	g, w := reflect.ValueOf(got), reflect.ValueOf(want)
	if g.Kind() == reflect.Slice && g.Len() == 0 && w.Len() == 0 {
		return
	}
	if !reflect.DeepEqual(got, want) {
		t.Errorf("%s: got %v, want %v", what, got, want)
	}
}

// fails reports a call that does not return an error beside a zero value.
func fails[T any](t *testing.T, what string, want api.Errno) func(T, api.Errno) {
	t.Helper()
	return func(got T, e api.Errno) {
		t.Helper()
		var zero T
		if e != want {
			t.Errorf("%s: got error %d, want %d", what, e, want)
		}
		same(t, what+" beside an error", got, zero)
	}
}

// sure returns a result that has no error.
func sure[T any](t *testing.T) func(T, api.Errno) T {
	t.Helper()
	return func(got T, e api.Errno) T {
		t.Helper()
		if e != api.OK {
			t.Fatalf("error %d", e)
		}
		return got
	}
}

// frames are the results of Run.
type frames struct{ residuals, commands numbers }

func run(l Loop, disturbance numbers) (frames, api.Errno) {
	residuals, commands, e := loop.Run(l, disturbance)
	return frames{residuals, commands}, e
}

// choice are the results of Best.
type choice struct {
	index int
	cost  api.Rat
}

func best(l Loop, gains, record numbers) (choice, api.Errno) {
	index, cost, e := loop.Best(l, gains, record)
	return choice{index, cost}, e
}

// noResult makes the error of a check that of a function without a result.
func noResult(e api.Errno) (struct{}, api.Errno) { return struct{}{}, e }

func asBig(t *testing.T, a api.Rat) *big.Rat {
	t.Helper()
	if e := number.Check(a); e != api.OK {
		t.Fatalf("%q is no number: error %d", a, e)
	}
	x, ok := new(big.Rat).SetString(string(a))
	if !ok {
		t.Fatalf("%q is no number", a)
	}
	return x
}

func allBig(t *testing.T, list numbers) values {
	t.Helper()
	all := values{}
	for _, a := range list {
		all = append(all, asBig(t, a))
	}
	return all
}

func fromBig(x *big.Rat) api.Rat { return api.Rat(x.RatString()) }

func allFromBig(list values) numbers {
	all := numbers{}
	for _, x := range list {
		all = append(all, fromBig(x))
	}
	return all
}

func add(x, y *big.Rat) *big.Rat { return new(big.Rat).Add(x, y) }

func sub(x, y *big.Rat) *big.Rat { return new(big.Rat).Sub(x, y) }

func mul(x, y *big.Rat) *big.Rat { return new(big.Rat).Mul(x, y) }

func div(x, y *big.Rat) *big.Rat { return new(big.Rat).Quo(x, y) }

func one() *big.Rat { return big.NewRat(1, 1) }

func zeros(n int) values {
	list := values{}
	for range n {
		list = append(list, new(big.Rat))
	}
	return list
}

// product returns the product of polynomials; that of none is 1.
func product(factors ...values) values {
	p := values{one()}
	for _, f := range factors {
		q := zeros(len(p) + len(f) - 1)
		for i, x := range p {
			for j, y := range f {
				q[i+j] = add(q[i+j], mul(x, y))
			}
		}
		p = q
	}
	return p
}

// isStable decides the stability of a polynomial by the matrix of Schur and
// Cohn, which must be positive definite.
func isStable(p values) bool {
	n := len(p) - 1
	m := make([]values, n)
	for i := range m {
		m[i] = zeros(n)
		for j := range n {
			for k := range min(i, j) + 1 {
				m[i][j] = add(m[i][j], sub(mul(p[n-i+k], p[n-j+k]), mul(p[i-k], p[j-k])))
			}
		}
	}
	for i := range m {
		if m[i][i].Sign() <= 0 {
			return false
		}
		for _, row := range m[i+1:] {
			multiple := div(row[i], m[i][i])
			for k := range row {
				row[k] = sub(row[k], mul(multiple, m[i][k]))
			}
		}
	}
	return true
}

// plan is a loop whose numbers are those of package big.
type plan struct {
	gain, leak, prediction *big.Rat
	delay                  int
}

func asPlan(t *testing.T, l Loop) plan {
	t.Helper()
	return plan{asBig(t, l.Gain), asBig(t, l.Leak), asBig(t, l.Prediction), l.Delay}
}

func (p plan) loop() Loop {
	return Loop{Gain: fromBig(p.gain), Leak: fromBig(p.leak), Prediction: fromBig(p.prediction), Delay: p.delay}
}

// closed returns the closed polynomial.
func (p plan) closed() values {
	list := zeros(p.delay + 3)
	for power, c := range map[int]*big.Rat{p.delay + 2: one(), p.delay + 1: new(big.Rat).Neg(p.leak)} {
		list[power] = add(list[power], c)
	}
	list[1] = add(list[1], add(p.gain, p.prediction))
	list[0] = sub(list[0], p.prediction)
	return list
}

// isTooLarge reports whether a number has more digits than package api allows.
func isTooLarge(x *big.Rat) bool {
	return len(new(big.Int).Abs(x.Num()).String()) > api.MaxDigits || len(x.Denom().String()) > api.MaxDigits
}

// sameList reports numbers that differ from the expected ones, which must be
// refused if one of them is too large.
func sameList(t *testing.T, what string, want values) func(numbers, api.Errno) {
	t.Helper()
	return func(got numbers, e api.Errno) {
		t.Helper()
		if slices.ContainsFunc(want, isTooLarge) {
			fails[numbers](t, what, api.ErrLarge)(got, e)
			return
		}
		if e != api.OK {
			t.Errorf("%s: error %d", what, e)
		}
		same(t, what, got, allFromBig(want))
	}
}

// sameNumber reports a number that differs from the expected one, which must
// be refused if it is too large.
func sameNumber(t *testing.T, what string, want *big.Rat) func(api.Rat, api.Errno) {
	t.Helper()
	return func(got api.Rat, e api.Errno) {
		t.Helper()
		if isTooLarge(want) {
			fails[api.Rat](t, what, api.ErrLarge)(got, e)
			return
		}
		if e != api.OK || got != fromBig(want) {
			t.Errorf("%s: got %v, error %d, want %v", what, got, e, want.RatString())
		}
	}
}

func nines(n int) api.Rat { return api.Rat(strings.Repeat("9", n)) }

// tenTo returns 10^n.
func tenTo(n int) api.Rat { return api.Rat("1" + strings.Repeat("0", n)) }

// tenthTo returns 10^-n.
func tenthTo(n int) api.Rat { return "1/" + tenTo(n) }

// badNumbers are strings with the errors of number.Check.
func badNumbers() map[api.Rat]api.Errno {
	return map[api.Rat]api.Errno{"": api.ErrForm, "x": api.ErrForm, "2/4": api.ErrForm, "1/0": api.ErrForm, "3/1": api.ErrForm, "-0": api.ErrForm, tenTo(600): api.ErrLarge, "1/" + tenTo(600): api.ErrLarge}
}

// badAmounts are strings with the errors of numbers that must be at least 0.
func badAmounts() map[api.Rat]api.Errno {
	list := badNumbers()
	list["-1"], list["-1/"+nines(600)] = api.ErrRange, api.ErrRange
	return list
}

// example is the loop L of the document's examples.
func example() Loop { return Loop{"1/2", "1", "0", 0} }

// delayed is the example with the delay 1.
func delayed() Loop { return Loop{"1/2", "1", "0", 1} }

// filled returns a list of equal numbers.
func filled(n int, a api.Rat) numbers { return slices.Repeat(numbers{a}, n) }

// badList is a list with its error.
type badList struct {
	list numbers
	e    api.Errno
}

// badPolys are polynomials with their errors.
func badPolys() []badList {
	list := []badList{
		{nil, api.ErrEmpty}, {numbers{}, api.ErrEmpty}, {filled(14, "1"), api.ErrMany}, {filled(14, "x"), api.ErrMany}, {filled(1000, ""), api.ErrMany},
		{numbers{"0"}, api.ErrZero}, {numbers{"1", "0"}, api.ErrZero}, {filled(13, "0"), api.ErrZero}, {numbers{"x", "0"}, api.ErrForm}, {numbers{"x", tenTo(600)}, api.ErrForm}, {numbers{tenTo(600), "x", "0"}, api.ErrLarge},
	}
	for a, e := range badNumbers() {
		list = append(list, badList{numbers{a}, e}, badList{numbers{"1", a, "1"}, e}, badList{append(filled(12, "1"), a), e})
	}
	return list
}

// badLoop is a loop with its error.
type badLoop struct {
	l Loop
	e api.Errno
}

// badLoops are loops with their errors.
func badLoops() []badLoop {
	list := []badLoop{
		{Loop{}, api.ErrForm}, {Loop{"1", "1", "0", -1}, api.ErrRange}, {Loop{"1", "1", "0", 7}, api.ErrRange},
		{Loop{"1", "3/2", "0", 0}, api.ErrRange}, {Loop{"1", nines(600) + "/" + nines(599) + "8", "0", 0}, api.ErrRange}, {Loop{"1", "-1/2", "0", 0}, api.ErrRange},
		{Loop{"-1", "x", "x", 7}, api.ErrRange}, {Loop{"x", "2", "-1", 7}, api.ErrForm}, {Loop{"0", "2", "x", 7}, api.ErrRange}, {Loop{"0", tenTo(600), "x", 7}, api.ErrLarge}, {Loop{"0", "0", "x", 7}, api.ErrForm}, {Loop{"0", "0", tenTo(600), -1}, api.ErrLarge},
	}
	for a, e := range badAmounts() {
		list = append(list, badLoop{Loop{a, "1", "0", 0}, e}, badLoop{Loop{"1/2", a, "0", 0}, e}, badLoop{Loop{"1/2", "1", a, 0}, e})
	}
	return list
}

// badRecords are records with their errors.
func badRecords() []badList {
	list := []badList{{filled(65, "1"), api.ErrMany}, {filled(65, "x"), api.ErrMany}, {numbers{"x", tenTo(600)}, api.ErrForm}, {numbers{"1", tenTo(600), "x"}, api.ErrLarge}}
	for a, e := range badNumbers() {
		list = append(list, badList{append(filled(63, "0"), a), e})
	}
	return list
}

func randomRat(r *rand.Rand) *big.Rat { return big.NewRat(int64(r.Intn(13)-6), int64(r.Intn(5)+1)) }

func randomValues(r *rand.Rand, n int) values {
	list := values{}
	for range n {
		list = append(list, randomRat(r))
	}
	return list
}

// randomPoly returns a polynomial, often one whose roots are small.
func randomPoly(r *rand.Rand, degree int) values {
	p := append(randomValues(r, degree), one())
	switch r.Intn(3) {
	case 0:
		p[degree] = big.NewRat(int64(r.Intn(20)-30), int64(r.Intn(3)+1))
	case 1:
		p[degree] = big.NewRat(int64(r.Intn(9)+1), int64(r.Intn(3)+1))
	}
	return p
}

// part returns a number from 0 to 1, often one of these.
func part(r *rand.Rand) *big.Rat {
	den := int64(r.Intn(6) + 1)
	return big.NewRat(r.Int63n(den+1), den)
}

// randomPlan returns a loop that is often stable.
func randomPlan(r *rand.Rand) plan {
	p := plan{part(r), part(r), new(big.Rat), r.Intn(loop.MaxDelay + 1)}
	switch r.Intn(4) {
	case 0:
		p.gain = mul(p.gain, big.NewRat(5, 2))
	case 1:
		p.prediction = mul(part(r), big.NewRat(1, 2))
	case 2:
		p.gain = mul(p.gain, big.NewRat(1, 4))
	}
	return p
}

// stablePlan returns a loop that is stable.
func stablePlan(r *rand.Rand) plan {
	for {
		if p := randomPlan(r); isStable(p.closed()) {
			return p
		}
	}
}

// several calls a function with a random source, until the test fails.
func several(t *testing.T, seed int64, times int, do func(r *rand.Rand)) {
	t.Helper()
	r := rand.New(rand.NewSource(seed))
	for range times {
		do(r)
		if t.Failed() {
			return
		}
	}
}
