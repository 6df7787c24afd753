package pupil_test

import (
	"math/big"
	"math/rand"
	"reflect"
	"slices"
	"strings"
	"testing"

	"lenslet/api"
	"lenslet/number"
	"lenslet/pupil"
)

type (
	vector = []api.Rat
	basis  = [][]api.Rat
)

// same reports a result that differs from the expected one; a nil slice and
// an empty one are the same.
func same[T any](t *testing.T, what string, got, want T) {
	t.Helper()
	g, w := reflect.ValueOf(got), reflect.ValueOf(want)
	if g.Kind() == reflect.Slice && g.Len() == 0 && w.Len() == 0 {
		return
	}
	if !reflect.DeepEqual(got, want) {
		t.Errorf("%s: got %v, want %v", what, got, want)
	}
}

// fails reports a call that does not return an error beside a zero value.
func fails[T any](t *testing.T, what string, want api.Errno) func(T, api.Errno) {
	t.Helper()
	return func(got T, e api.Errno) {
		t.Helper()
		var zero T
		if e != want {
			t.Errorf("%s: got error %d, want %d", what, e, want)
		}
		same(t, what+" beside an error", got, zero)
	}
}

// sure returns a result that has no error.
func sure[T any](t *testing.T) func(T, api.Errno) T {
	t.Helper()
	return func(got T, e api.Errno) T {
		t.Helper()
		if e != api.OK {
			t.Fatalf("error %d", e)
		}
		return got
	}
}

func asBig(t *testing.T, a api.Rat) *big.Rat {
	t.Helper()
	if e := number.Check(a); e != api.OK {
		t.Fatalf("%q is no number: error %d", a, e)
	}
	x, ok := new(big.Rat).SetString(string(a))
	if !ok {
		t.Fatalf("%q is no number", a)
	}
	return x
}

func fromBig(x *big.Rat) api.Rat { return api.Rat(x.RatString()) }

func add(x, y *big.Rat) *big.Rat { return new(big.Rat).Add(x, y) }

func sub(x, y *big.Rat) *big.Rat { return new(big.Rat).Sub(x, y) }

func mul(x, y *big.Rat) *big.Rat { return new(big.Rat).Mul(x, y) }

// power returns x to the power of n.
func power(x *big.Rat, n int) *big.Rat {
	p := big.NewRat(1, 1)
	for range n {
		p = mul(p, x)
	}
	return p
}

func nines(n int) api.Rat { return api.Rat(strings.Repeat("9", n)) }

// tenTo returns 10^n.
func tenTo(n int) api.Rat { return api.Rat("1" + strings.Repeat("0", n)) }

// badNumbers are strings with the errors of number.Check.
func badNumbers() map[api.Rat]api.Errno {
	return map[api.Rat]api.Errno{"": api.ErrForm, "x": api.ErrForm, "2/4": api.ErrForm, "1/0": api.ErrForm, "-0": api.ErrForm, tenTo(600): api.ErrLarge, "1/" + tenTo(600): api.ErrLarge}
}

func randomRat(r *rand.Rand) api.Rat {
	return fromBig(big.NewRat(int64(r.Intn(61)-30), int64(r.Intn(9)+1)))
}

func randomVector(r *rand.Rand, n int) vector {
	v := make(vector, n)
	for i := range v {
		v[i] = randomRat(r)
	}
	return v
}

// poly returns the polynomial with one term.
func poly(c api.Rat, i, j int) pupil.Poly { return pupil.Poly{{C: c, I: i, J: j}} }

// randomPoly returns a polynomial of at most some degree; every polynomial of
// that degree may come.
func randomPoly(r *rand.Rand, degree int) pupil.Poly {
	var f pupil.Poly
	for d := range degree + 1 {
		for j := range d + 1 {
			c := randomRat(r)
			if c != "0" && r.Intn(3) > 0 {
				f = append(f, pupil.Term{C: c, I: d - j, J: j})
			}
		}
	}
	return f
}

// valueAt returns the value of a polynomial from its definition.
func valueAt(t *testing.T, f pupil.Poly, x, y *big.Rat) *big.Rat {
	t.Helper()
	sum := new(big.Rat)
	for _, term := range f {
		sum = add(sum, mul(asBig(t, term.C), mul(power(x, term.I), power(y, term.J))))
	}
	return sum
}

func dot(t *testing.T, v, w vector) *big.Rat {
	t.Helper()
	sum := new(big.Rat)
	for i := range v {
		sum = add(sum, mul(asBig(t, v[i]), asBig(t, w[i])))
	}
	return sum
}

// zeros returns a vector of zeros.
func zeros(n int) vector { return slices.Repeat(vector{"0"}, n) }

// small is the pupil of the document's examples.
func small() pupil.Pupil { return pupil.Pupil{Size: 4, Outer: "1", Inner: "1/2"} }

// large is a pupil of the greatest size with a hole and vanes.
func large() pupil.Pupil {
	vanes := []pupil.Vane{{A: 3, B: 4, H: 5, Half: "1/20"}, {A: -1, B: 0, H: 1, Half: "1/15"}}
	return pupil.Pupil{Size: 16, Outer: "1", Inner: "1/5", Vanes: vanes}
}

// empty is a pupil without cells: its disc lies between the centres.
func empty() pupil.Pupil { return pupil.Pupil{Size: 2, Outer: "1/2", Inner: "0"} }

// modes returns the first Zernike polynomials, by ascending n and m.
func modes(t *testing.T, count int) []pupil.Poly {
	t.Helper()
	var list []pupil.Poly
	for n := range pupil.MaxZernike + 1 {
		for m := -n; m <= n; m += 2 {
			list = append(list, sure[pupil.Poly](t)(pupil.Zernike(n, m)))
		}
	}
	return list[:count]
}
