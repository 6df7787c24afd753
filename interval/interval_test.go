package interval

import (
	"math/rand"
	"reflect"
	"strings"
	"testing"

	"lenslet/api"
	"lenslet/rational"
)

func same[T any](t *testing.T, what string, got, want T) {
	t.Helper()
	if !reflect.DeepEqual(got, want) {
		t.Errorf("%s: got %v, want %v", what, got, want)
	}
}

// between returns the interval of two integers.
func between(low, high int) Interval {
	return Interval{rational.Integer(rational.Whole(low)), rational.Integer(rational.Whole(high))}
}

// written returns the span of an interval whose ends are short.
func written(t *testing.T, a Interval) api.Span {
	t.Helper()
	s, e := a.Write()
	if e != api.OK {
		t.Fatalf("error %d", e)
	}
	return s
}

func TestReadAndWrite(t *testing.T) {
	large := api.Rat("1" + strings.Repeat("0", api.MaxDigits))
	for _, row := range []struct {
		s api.Span
		e api.Errno
	}{
		{api.Span{Low: "-1/2", High: "3"}, api.OK}, {api.Span{Low: "3", High: "3"}, api.OK}, {api.Span{Low: "1", High: "1/2"}, api.ErrOrder},
		{api.Span{}, api.ErrForm}, {api.Span{Low: "2/4", High: large}, api.ErrForm}, {api.Span{Low: large, High: "x"}, api.ErrLarge}, {api.Span{Low: "5", High: "x"}, api.ErrForm},
	} {
		a, e := Read(row.s)
		same(t, "the error of Read", e, row.e)
		if e == api.OK {
			same(t, "Write", written(t, a), row.s)
		}
		good := api.Span{Low: "1", High: "2"}
		_, e = ReadBox(api.Box{Re: row.s, Im: good})
		same(t, "the error of ReadBox", e, row.e)
		_, e = ReadBox(api.Box{Re: good, Im: row.s})
		same(t, "the error of ReadBox", e, row.e)
	}
	long := rational.Integer(rational.Power(10, api.MaxDigits))
	for _, a := range []Interval{Single(long), {rational.One(), long}, {long.Neg(), rational.One()}} {
		s, e := a.Write()
		same(t, "Write of a long end", s, api.Span{})
		same(t, "the error of Write", e, api.ErrLarge)
		for _, b := range []Box{{a, between(0, 1)}, {between(0, 1), a}} {
			box, e := b.Write()
			same(t, "Write of a long part", box, api.Box{})
			same(t, "the error of Write", e, api.ErrLarge)
		}
	}
}

func TestOperations(t *testing.T) {
	a, b, c := between(-1, 2), between(-3, 4), between(2, 4)
	for _, row := range []struct {
		what      string
		got       Interval
		low, high api.Rat
	}{
		{"Plus", a.Plus(b), "-4", "6"}, {"Minus", a.Minus(b), "-5", "5"}, {"Times", a.Times(b), "-6", "8"}, {"Over", a.Over(c), "-1/2", "1"}, {"Neg", a.Neg(), "-2", "1"},
		{"Times of single numbers", between(3, 3).Times(between(-2, -2)), "-6", "-6"}, {"Over of single numbers", between(3, 3).Over(between(-2, -2)), "-3/2", "-3/2"},
		{"Times of a single number", b.Times(between(-2, -2)), "-8", "6"}, {"Times of a single number", between(-2, -2).Times(b), "-8", "6"}, {"Times below 0", between(-3, -2).Times(between(-5, -4)), "8", "15"},
		{"Square", b.Square(), "0", "16"}, {"Square above 0", c.Square(), "4", "16"}, {"Square below 0", c.Neg().Square(), "4", "16"}, {"Square of a single number", between(-3, -3).Square(), "9", "9"},
	} {
		same(t, row.what, written(t, row.got), api.Span{Low: row.low, High: row.high})
	}
	for _, row := range []struct {
		a               Interval
		least, greatest int
		zero            bool
	}{
		{a, 0, 2, true}, {b, 0, 4, true}, {b.Neg(), 0, 4, true}, {c, 2, 4, false}, {c.Neg(), 2, 4, false}, {between(0, 3), 0, 3, true}, {between(-3, 0), 0, 3, true}, {between(0, 0), 0, 0, true},
	} {
		same(t, "Least and Greatest", written(t, Interval{row.a.Least(), row.a.Greatest()}), written(t, between(row.least, row.greatest)))
		same(t, "ContainsZero", row.a.ContainsZero(), row.zero)
	}
}

func TestBoxes(t *testing.T) {
	a, b := Box{between(1, 2), between(-1, 1)}, Box{between(0, 1), between(3, 4)}
	three := rational.Integer(rational.Whole(3))
	for _, row := range []struct {
		what   string
		got    Box
		re, im Interval
	}{
		{"Plus", a.Plus(b), between(1, 3), between(2, 5)}, {"Minus", a.Minus(b), between(0, 2), between(-5, -2)}, {"Times", a.Times(b), between(-4, 6), between(2, 9)},
		{"By", a.By(three.Neg()), between(-6, -3), between(-3, 3)}, {"Conjugate", b.Conjugate(), between(0, 1), between(-4, -3)},
	} {
		box, e := row.got.Write()
		same(t, "the error of Write", e, api.OK)
		same(t, row.what, box, api.Box{Re: written(t, row.re), Im: written(t, row.im)})
	}
	same(t, "Norm", written(t, a.Norm()), written(t, between(1, 5)))
	same(t, "Norm", written(t, b.Norm()), written(t, between(9, 17)))
}

// TestMembers has results of members of intervals, which must be members of
// the results.
func TestMembers(t *testing.T) {
	r := rand.New(rand.NewSource(1))
	random := func() (Interval, rational.Ratio) {
		low, width := r.Intn(13)-6, r.Intn(5)
		share := rational.Fraction(rational.Whole(r.Intn(5)), rational.Whole(4))
		a := between(low, low+width)
		return a, a.Low.Add(a.High.Sub(a.Low).Mul(share))
	}
	within := func(what string, a Interval, x rational.Ratio) {
		t.Helper()
		if x.Cmp(a.Low) < 0 || x.Cmp(a.High) > 0 {
			t.Errorf("%s: %v is not in %v", what, x, a)
		}
	}
	for range 3000 {
		a, x := random()
		b, y := random()
		within("Plus", a.Plus(b), x.Add(y))
		within("Minus", a.Minus(b), x.Sub(y))
		within("Times", a.Times(b), x.Mul(y))
		within("Square", a.Square(), x.Mul(x))
		if !b.ContainsZero() {
			within("Over", a.Over(b), x.Div(y))
		}
	}
}
