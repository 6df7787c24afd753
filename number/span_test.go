package number

import (
	"math"
	"math/big"
	"math/rand"
	"testing"

	"lenslet/api"
)

// P1.2: spans.

func TestCheckSpan(t *testing.T) {
	for _, row := range []struct {
		s api.Span
		e api.Errno
	}{
		{span("1", "2"), api.OK}, {span("1", "1"), api.OK}, {span("-2", "-1"), api.OK},
		{span("1/3", "1/2"), api.OK}, {span("2", "1"), api.ErrOrder}, {span("1/2", "1/3"), api.ErrOrder},
		{api.Span{}, api.ErrForm}, {span("2/4", tenTo(600)), api.ErrForm},
		{span("5", tenTo(600)), api.ErrLarge}, {span(tenTo(600), ""), api.ErrLarge}, {span("5", ""), api.ErrForm},
	} {
		same(t, "CheckSpan", CheckSpan(row.s), row.e)
	}
}

func TestSpanOperations(t *testing.T) {
	a, b := span("-1", "2"), span("-3", "4")
	same(t, "Plus", sure[api.Span](t)(Plus(a, b)), span("-4", "6"))
	same(t, "Minus", sure[api.Span](t)(Minus(a, b)), span("-5", "5"))
	same(t, "Times", sure[api.Span](t)(Times(a, b)), span("-6", "8"))
	same(t, "Times below 0", sure[api.Span](t)(Times(span("-3", "-2"), span("-5", "-4"))), span("8", "15"))
	same(t, "Times 0", sure[api.Span](t)(Times(a, point("0"))), point("0"))
	same(t, "Over", sure[api.Span](t)(Over(span("1", "2"), span("4", "8"))), span("1/8", "1/2"))
	same(t, "Over below 0", sure[api.Span](t)(Over(a, span("-2", "-1/2"))), span("-4", "2"))
	same(t, "Square", sure[api.Span](t)(Square(a)), span("0", "4"))
	same(t, "Square of -5 to 2", sure[api.Span](t)(Square(span("-5", "2"))), span("0", "25"))
	same(t, "Square below 0", sure[api.Span](t)(Square(span("-3", "-2"))), span("4", "9"))
	same(t, "Square above 0", sure[api.Span](t)(Square(span("1/3", "2"))), span("1/9", "4"))
	same(t, "Square from 0 on", sure[api.Span](t)(Square(span("0", "2"))), span("0", "4"))
}

func TestErrorsOfSpanOperations(t *testing.T) {
	good, disordered, large := span("1", "2"), span("2", "1"), span("1", nines(600))
	for name, of := range map[string]func(a, b api.Span) (api.Span, api.Errno){"Plus": Plus, "Minus": Minus, "Times": Times, "Over": Over} {
		fails[api.Span](t, name, api.ErrOrder)(of(disordered, api.Span{}))
		fails[api.Span](t, name, api.ErrForm)(of(good, api.Span{}))
		fails[api.Span](t, name, api.ErrForm)(of(api.Span{}, disordered))
	}
	for _, s := range []api.Span{span("0", "8"), span("-8", "0"), span("-1", "1"), point("0")} {
		fails[api.Span](t, "Over", api.ErrZero)(Over(good, s))
		fails[api.Span](t, "Over", api.ErrOrder)(Over(disordered, s))
	}
	fails[api.Span](t, "Plus", api.ErrLarge)(Plus(large, good))
	fails[api.Span](t, "Minus", api.ErrLarge)(Minus(span("-"+nines(600), "0"), good))
	fails[api.Span](t, "Times", api.ErrLarge)(Times(large, large))
	fails[api.Span](t, "Over", api.ErrLarge)(Over(good, span("1/"+nines(600), "1")))
	fails[api.Span](t, "Square", api.ErrLarge)(Square(span("0", tenTo(300))))
	same(t, "Square at the limit", sure[api.Span](t)(Square(point(tenTo(299)))), point(tenTo(598)))
	fails[api.Span](t, "Square", api.ErrOrder)(Square(disordered))
	fails[api.Span](t, "Square", api.ErrForm)(Square(api.Span{}))
}

func TestCompare(t *testing.T) {
	for _, row := range []struct {
		a, b api.Span
		want int
	}{
		{span("1", "2"), span("3", "4"), -1}, {span("3", "4"), span("1", "2"), 1},
		{point("2"), point("2"), 0}, {point("1/3"), point("1/2"), -1}, {point("0"), span("-2", "-1/9"), 1},
	} {
		same(t, "Compare", sure[int](t)(Compare(row.a, row.b)), row.want)
	}
	for _, row := range [][2]api.Span{
		{span("1", "2"), span("2", "3")}, {span("2", "3"), span("1", "2")}, {span("1", "2"), span("1", "2")},
		{span("1", "4"), point("2")}, {point("2"), span("2", "3")}, {span("1", "2"), point("2")},
	} {
		fails[int](t, "Compare", api.ErrOpen)(Compare(row[0], row[1]))
	}
	fails[int](t, "Compare", api.ErrOrder)(Compare(span("2", "1"), api.Span{}))
	fails[int](t, "Compare", api.ErrForm)(Compare(span("1", "2"), api.Span{}))
}

func TestRoot(t *testing.T) {
	for _, row := range []struct {
		a        api.Rat
		decimals int
		want     api.Span
	}{
		{"2", 3, span("707/500", "283/200")}, {"2", 1, span("7/5", "3/2")}, {"9/16", 1, point("3/4")},
		{"0", 2, point("0")}, {"1", 12, point("1")}, {"1/4", 12, point("1/2")},
		{"2", 12, span("1414213562373/1000000000000", "707106781187/500000000000")},
		{"1/2", 2, span("7/10", "71/100")}, {"2/9", 1, span("2/5", "1/2")}, {"9/2", 1, span("21/10", "11/5")},
		{"1/" + nines(600), 12, span("0", "1/1000000000000")},
		{tenTo(598), 1, point(tenTo(299))}, {"1/" + tenTo(598), 1, point("1/" + tenTo(299))},
	} {
		same(t, "Root "+string(row.a), sure[api.Span](t)(Root(row.a, row.decimals)), row.want)
	}
	for _, row := range []struct {
		a        api.Rat
		decimals int
		e        api.Errno
	}{
		{"x", 0, api.ErrForm}, {tenTo(600), 0, api.ErrLarge}, {"-1", 3, api.ErrRange}, {"2", 0, api.ErrRange},
		{"2", 13, api.ErrRange}, {"2", -1, api.ErrRange}, {"4", 0, api.ErrRange}, {"2", math.MaxInt, api.ErrRange}, {"2", math.MinInt, api.ErrRange},
	} {
		fails[api.Span](t, "Root "+string(row.a), row.e)(Root(row.a, row.decimals))
	}
}

func TestRootsEncloseTheRoot(t *testing.T) {
	r := rand.New(rand.NewSource(2))
	for range 1000 {
		x := big.NewRat(r.Int63n(100000), r.Int63n(1000)+1)
		for decimals := 1; decimals <= MaxDecimals; decimals++ {
			s := sure[api.Span](t)(Root(fromBig(x), decimals))
			low, high := asBig(t, s.Low), asBig(t, s.High)
			step := new(big.Rat).SetFrac64(1, int64(math.Pow10(decimals)))
			width := new(big.Rat).Sub(high, low)
			if low.Mul(low, low).Cmp(x) > 0 || high.Mul(high, high).Cmp(x) < 0 {
				t.Errorf("the root of %v is not in %v", x, s)
			}
			if single := width.Sign() == 0; !single && (width.Cmp(step) != 0 || high.Cmp(x) == 0) {
				t.Errorf("the span %v of the root of %v is not a step", s, x)
			}
		}
	}
}

// P1.7: the consequences for spans.

func TestMembersOfSpans(t *testing.T) {
	r := rand.New(rand.NewSource(3))
	for range 1000 {
		a, b := randomSpan(t, r), randomSpan(t, r)
		x, y := member(t, r, a), member(t, r, b)
		type pair struct {
			all api.Span
			one api.Rat
		}
		pairs := []pair{
			{sure[api.Span](t)(Plus(a, b)), sure[api.Rat](t)(Add(x, y))},
			{sure[api.Span](t)(Minus(a, b)), sure[api.Rat](t)(Sub(x, y))},
			{sure[api.Span](t)(Times(a, b)), sure[api.Rat](t)(Mul(x, y))},
			{sure[api.Span](t)(Square(a)), sure[api.Rat](t)(Mul(x, x))},
		}
		if quotient, e := Over(a, b); e == api.OK {
			pairs = append(pairs, pair{quotient, sure[api.Rat](t)(Div(x, y))})
		} else if e != api.ErrZero || !contains(t, b, "0") {
			t.Errorf("Over %v: error %d", b, e)
		}
		for i, p := range pairs {
			if !contains(t, p.all, p.one) {
				t.Errorf("operation %d on %v and %v: %v is not in %v", i, a, b, p.one, p.all)
			}
		}
		if order, e := Compare(a, b); e == api.OK {
			same(t, "Compare and Order", order, sure[int](t)(Order(x, y)))
		}
	}
}

func TestEndsAreReached(t *testing.T) {
	r := rand.New(rand.NewSource(4))
	for range 1000 {
		a, b := randomSpan(t, r), randomSpan(t, r)
		s := sure[api.Span](t)(Times(a, b))
		reached := map[api.Rat]bool{}
		for _, x := range []api.Rat{a.Low, a.High} {
			for _, y := range []api.Rat{b.Low, b.High} {
				reached[sure[api.Rat](t)(Mul(x, y))] = true
			}
		}
		if !reached[s.Low] || !reached[s.High] {
			t.Errorf("the ends of the product %v of %v and %v are no products", s, a, b)
		}
	}
}

func TestRootsAreNested(t *testing.T) {
	for n := range 60 {
		a := sure[api.Rat](t)(Of(n, 7))
		for decimals := 1; decimals < MaxDecimals; decimals++ {
			outer, inner := sure[api.Span](t)(Root(a, decimals)), sure[api.Span](t)(Root(a, decimals+1))
			if !containsSpan(t, outer, inner) {
				t.Errorf("root of %s: %v is not in %v", a, inner, outer)
			}
		}
	}
}
