package number

import (
	"math"
	"math/big"
	"math/rand"
	"strings"
	"testing"

	"lenslet/api"
)

// P1.1: numbers.

func TestIsName(t *testing.T) {
	for name, want := range map[string]bool{
		"a": true, "z": true, "A": true, "Z": true, "ann": true, "a_1": true, "aZ09_": true,
		strings.Repeat("a", 24): true, strings.Repeat("a", 25): false,
		"": false, "1a": false, "_a": false, "a b": false, "a-": false, "é": false,
		"aé": false, "a\x00": false, "a\xff": false, "\xff": false, "a/": false,
		"a:": false, "a@": false, "a[": false, "a`": false, "a{": false,
	} {
		same(t, "IsName "+name, IsName(name), want)
	}
}

func TestCheck(t *testing.T) {
	long := strings.Repeat("3", 601)
	for text, want := range map[string]api.Errno{
		"0": api.OK, "7": api.OK, "-7": api.OK, "3/2": api.OK, "-3/2": api.OK, "10": api.OK,
		"1/10": api.OK, string(nines(600)): api.OK, "-" + string(nines(600)): api.OK,
		"1/" + string(nines(600)): api.OK,

		"": api.ErrForm, "-": api.ErrForm, "-0": api.ErrForm, "00": api.ErrForm, "01": api.ErrForm,
		"-01": api.ErrForm, "+1": api.ErrForm, "--1": api.ErrForm, " 1": api.ErrForm, "1 ": api.ErrForm,
		"1.5": api.ErrForm, "1e3": api.ErrForm, "x": api.ErrForm, "٣": api.ErrForm, "1\xff": api.ErrForm,
		"/": api.ErrForm, "1/": api.ErrForm, "/2": api.ErrForm, "-/2": api.ErrForm, "1/-2": api.ErrForm,
		"1/0": api.ErrForm, "1/1": api.ErrForm, "1/02": api.ErrForm, "1/2/3": api.ErrForm,
		"1//2": api.ErrForm, "-0/2": api.ErrForm, "01/2": api.ErrForm,

		"2/4": api.ErrForm, "-6/4": api.ErrForm, "0/5": api.ErrForm, "5/5": api.ErrForm,

		long: api.ErrLarge, "-" + long: api.ErrLarge, "1/" + long: api.ErrLarge,
		// The form is examined before the number of digits, this before common divisors.
		"0" + long: api.ErrForm, long + "/1": api.ErrForm, long + "/0": api.ErrForm, long + "/x": api.ErrForm,
		"-" + long + "x": api.ErrForm, long + "/3": api.ErrLarge, "3/" + long: api.ErrLarge, "0/" + long: api.ErrLarge,
	} {
		same(t, "Check "+text, Check(api.Rat(text)), want)
	}
}

func TestOf(t *testing.T) {
	for _, row := range []struct {
		num, den int
		want     api.Rat
	}{
		{15, -6, "-5/2"}, {-15, -6, "5/2"}, {0, -3, "0"}, {4, 2, "2"}, {1, 3, "1/3"},
		{math.MaxInt, 1, "9223372036854775807"}, {math.MinInt, 1, "-9223372036854775808"},
		{math.MinInt, -1, "9223372036854775808"}, {1, math.MinInt, "-1/9223372036854775808"},
		{math.MinInt, math.MinInt, "1"}, {math.MinInt, 6, "-4611686018427387904/3"},
	} {
		same(t, "Of", sure[api.Rat](t)(Of(row.num, row.den)), row.want)
	}
	fails[api.Rat](t, "Of by 0", api.ErrZero)(Of(15, 0))
	fails[api.Rat](t, "Of 0 by 0", api.ErrZero)(Of(0, 0))
}

func TestSums(t *testing.T) {
	same(t, "Add", sure[api.Rat](t)(Add("1/10", "1/15")), "1/6")
	same(t, "Sub", sure[api.Rat](t)(Sub("1/10", "1/15")), "1/30")
	same(t, "Mul", sure[api.Rat](t)(Mul("9/4", "-2/3")), "-3/2")
	same(t, "Div", sure[api.Rat](t)(Div("9/4", "-3/2")), "-3/2")
	same(t, "Div of 0", sure[api.Rat](t)(Div("0", "-3/2")), "0")
	r := rand.New(rand.NewSource(1))
	for range 3000 {
		a, b := randomRat(r), randomRat(r)
		x, y := asBig(t, a), asBig(t, b)
		same(t, "Add", sure[api.Rat](t)(Add(a, b)), fromBig(new(big.Rat).Add(x, y)))
		same(t, "Sub", sure[api.Rat](t)(Sub(a, b)), fromBig(new(big.Rat).Sub(x, y)))
		same(t, "Mul", sure[api.Rat](t)(Mul(a, b)), fromBig(new(big.Rat).Mul(x, y)))
		same(t, "Order", sure[int](t)(Order(a, b)), x.Cmp(y))
		if y.Sign() != 0 {
			same(t, "Div", sure[api.Rat](t)(Div(a, b)), fromBig(new(big.Rat).Quo(x, y)))
		}
	}
}

func TestErrorsOfSums(t *testing.T) {
	for name, of := range map[string]func(a, b api.Rat) (api.Rat, api.Errno){"Add": Add, "Sub": Sub, "Mul": Mul, "Div": Div} {
		fails[api.Rat](t, name+" first", api.ErrForm)(of("2/4", tenTo(600)))
		fails[api.Rat](t, name+" first large", api.ErrLarge)(of(tenTo(600), "x"))
		fails[api.Rat](t, name+" second", api.ErrForm)(of("1", "-0"))
		fails[api.Rat](t, name+" second large", api.ErrLarge)(of("1", tenTo(600)))
	}
	fails[int](t, "Order first", api.ErrForm)(Order("", tenTo(600)))
	fails[int](t, "Order second", api.ErrLarge)(Order("1", tenTo(600)))
	fails[api.Rat](t, "Div by 0", api.ErrZero)(Div("1", "0"))
	fails[api.Rat](t, "Div 0 by 0", api.ErrZero)(Div("0", "0"))
	fails[api.Rat](t, "Div of an error by 0", api.ErrForm)(Div("x", "0"))
	fails[api.Rat](t, "Floor", api.ErrForm)(Floor("1/1"))
	fails[api.Rat](t, "Floor large", api.ErrLarge)(Floor(tenTo(600)))
}

func TestLargeSums(t *testing.T) {
	same(t, "Add below the limit", sure[api.Rat](t)(Add(nines(600), "-1")), nines(599)+"8")
	fails[api.Rat](t, "Add", api.ErrLarge)(Add(nines(600), "1"))
	fails[api.Rat](t, "Add of fractions", api.ErrLarge)(Add("1/"+nines(600), "1/2"))
	fails[api.Rat](t, "Sub", api.ErrLarge)(Sub("-"+nines(600), "1"))
	same(t, "Mul at the limit", sure[api.Rat](t)(Mul(tenTo(300), tenTo(299))), tenTo(599))
	fails[api.Rat](t, "Mul", api.ErrLarge)(Mul(tenTo(300), tenTo(300)))
	same(t, "Mul with large factors", sure[api.Rat](t)(Mul(nines(600), "1/"+nines(600))), "1")
	same(t, "Div with large factors", sure[api.Rat](t)(Div(nines(600), nines(600))), "1")
	fails[api.Rat](t, "Div", api.ErrLarge)(Div("1/"+tenTo(300), tenTo(300)))
	same(t, "Order", sure[int](t)(Order("1/"+nines(600), "1/"+nines(599))), -1)
}

func TestOrder(t *testing.T) {
	ascending := []api.Rat{"-" + nines(600), "-3", "-5/2", "-1/2", "-1/3", "0", "1/3", "1/2", "1", "3/2", nines(600)}
	for i, a := range ascending {
		for j, b := range ascending {
			want := 0
			if i < j {
				want = -1
			} else if i > j {
				want = 1
			}
			same(t, "Order", sure[int](t)(Order(a, b)), want)
		}
	}
}

func TestFloor(t *testing.T) {
	for a, want := range map[api.Rat]api.Rat{
		"-5/2": "-3", "5/2": "2", "0": "0", "7": "7", "-7": "-7", "1/3": "0", "-1/3": "-1",
		"-1/" + nines(600): "-1", nines(600): nines(600), "-" + nines(600): "-" + nines(600),
	} {
		same(t, "Floor "+string(a), sure[api.Rat](t)(Floor(a)), want)
	}
}

// P1.6: permutations.

func TestDraw(t *testing.T) {
	same(t, "Draw", sure[[]int](t)(Draw(1, 3)), []int{0, 2, 1})
	same(t, "Draw of none", sure[[]int](t)(Draw(1, 0)), []int{})
	same(t, "Draw of one", sure[[]int](t)(Draw(2147483646, 1)), []int{0})
	for _, key := range []int{1, 7, 39373, 2147483646} {
		for _, n := range []int{2, 5, 100, 256} {
			same(t, "Draw", sure[[]int](t)(Draw(key, n)), drawn(key, n))
		}
	}
	for _, row := range [][2]int{{0, 3}, {-1, 3}, {2147483647, 3}, {math.MinInt, 3}, {math.MaxInt, 3}, {1, -1}, {1, 257}, {1, math.MaxInt}, {0, 257}} {
		fails[[]int](t, "Draw", api.ErrRange)(Draw(row[0], row[1]))
	}
}

// drawn follows the definition of a permutation with big integers.
func drawn(key, n int) []int {
	list := make([]int, n)
	for i := range list {
		list[i] = i
	}
	x := big.NewInt(int64(key))
	for i := n - 1; i >= 1; i-- {
		x.Mul(x, big.NewInt(39373)).Mod(x, big.NewInt(2147483647))
		other := new(big.Int).Mod(x, big.NewInt(int64(i+1))).Int64()
		list[i], list[other] = list[other], list[i]
	}
	return list
}
