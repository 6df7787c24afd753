package number

import (
	"math/big"
	"math/rand"
	"reflect"
	"strings"
	"testing"

	"lenslet/api"
)

// same reports a result that differs from the expected one; a nil slice and
// an empty one are the same.
func same[T any](t *testing.T, what string, got, want T) {
	t.Helper()
	g, w := reflect.ValueOf(got), reflect.ValueOf(want)
	if g.Kind() == reflect.Slice && g.Len() == 0 && w.Len() == 0 {
		return
	}
	if !reflect.DeepEqual(got, want) {
		t.Errorf("%s: got %v, want %v", what, got, want)
	}
}

// fails reports a call that does not return an error beside a zero value.
func fails[T any](t *testing.T, what string, want api.Errno) func(T, api.Errno) {
	t.Helper()
	return func(got T, e api.Errno) {
		t.Helper()
		var zero T
		if e != want {
			t.Errorf("%s: got error %d, want %d", what, e, want)
		}
		same(t, what+" beside an error", got, zero)
	}
}

// sure returns a result that has no error.
func sure[T any](t *testing.T) func(T, api.Errno) T {
	t.Helper()
	return func(got T, e api.Errno) T {
		t.Helper()
		if e != api.OK {
			t.Fatalf("error %d", e)
		}
		return got
	}
}

func asBig(t *testing.T, a api.Rat) *big.Rat {
	t.Helper()
	if e := Check(a); e != api.OK {
		t.Fatalf("%q is no number: error %d", a, e)
	}
	x, ok := new(big.Rat).SetString(string(a))
	if !ok {
		t.Fatalf("%q is no number", a)
	}
	return x
}

func fromBig(x *big.Rat) api.Rat { return api.Rat(x.RatString()) }

func span(low, high api.Rat) api.Span { return api.Span{Low: low, High: high} }

func point(a api.Rat) api.Span { return span(a, a) }

func box(reLow, reHigh, imLow, imHigh api.Rat) api.Box {
	return api.Box{Re: span(reLow, reHigh), Im: span(imLow, imHigh)}
}

// complexOf returns the box of one complex number.
func complexOf(re, im api.Rat) api.Box { return box(re, re, im, im) }

func nines(n int) api.Rat { return api.Rat(strings.Repeat("9", n)) }

// tenTo returns 10^n.
func tenTo(n int) api.Rat { return api.Rat("1" + strings.Repeat("0", n)) }

func randomRat(r *rand.Rand) api.Rat {
	return fromBig(big.NewRat(int64(r.Intn(61)-30), int64(r.Intn(9)+1)))
}

func randomSpan(t *testing.T, r *rand.Rand) api.Span {
	t.Helper()
	a, b := randomRat(r), randomRat(r)
	if asBig(t, a).Cmp(asBig(t, b)) > 0 {
		a, b = b, a
	}
	return span(a, b)
}

// member returns a number of a span.
func member(t *testing.T, r *rand.Rand, s api.Span) api.Rat {
	t.Helper()
	low, high := asBig(t, s.Low), asBig(t, s.High)
	share := big.NewRat(int64(r.Intn(5)), 4)
	width := new(big.Rat).Sub(high, low)
	return fromBig(width.Mul(width, share).Add(width, low))
}

func contains(t *testing.T, s api.Span, a api.Rat) bool {
	t.Helper()
	x := asBig(t, a)
	return asBig(t, s.Low).Cmp(x) <= 0 && x.Cmp(asBig(t, s.High)) <= 0
}

func containsSpan(t *testing.T, outer, inner api.Span) bool {
	t.Helper()
	return contains(t, outer, inner.Low) && contains(t, outer, inner.High)
}
