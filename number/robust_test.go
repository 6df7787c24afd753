package number

import (
	"math"
	"testing"

	"lenslet/api"
)

// P1: every function terminates and does not panic, for all arguments.

func oddNumbers() []api.Rat {
	return []api.Rat{
		"", "-", "/", "-/", "1/", "/1", "0", "-0", "1/0", "0/0", "0/7", "2/4", "-3/2", "1/3", "\xff", "é", "1/\x00",
		nines(600), "-" + nines(600), "1/" + nines(600), tenTo(600), "1/" + tenTo(600), tenTo(5000), "1/" + tenTo(5000), tenTo(200000),
	}
}

func TestOddNumbers(t *testing.T) {
	for _, a := range oddNumbers() {
		IsName(string(a))
		Check(a)
		Floor(a)
		Float(a)
		for _, decimals := range []int{math.MinInt, -1, 0, 1, 12, 13, math.MaxInt} {
			Root(a, decimals)
			Cos(a, decimals)
			Sin(a, decimals)
			Turn(a, decimals)
		}
		for _, b := range oddNumbers() {
			Add(a, b)
			Sub(a, b)
			Mul(a, b)
			Div(a, b)
			Order(a, b)
			s, other := span(a, b), span(b, "1/3")
			CheckSpan(s)
			Square(s)
			for _, of := range []func(x, y api.Span) (api.Span, api.Errno){Plus, Minus, Times, Over} {
				of(s, other)
				of(other, s)
			}
			Compare(s, other)
			x, y := api.Box{Re: s, Im: other}, api.Box{Re: other, Im: s}
			CheckBox(x)
			Conjugate(x)
			Norm(x)
			AddBox(x, y)
			MulBox(x, y)
			m := [][]api.Rat{{a, b}, {b, a}}
			CheckMatrix(m)
			Multiply(m, m)
			Solve(m, []api.Rat{a, b})
			Kernel(m)
			Rank(m)
		}
	}
}

func TestOddIntegers(t *testing.T) {
	odd := []int{math.MinInt, math.MinInt + 1, -1, 0, 1, 256, 257, 2147483646, 2147483647, math.MaxInt}
	for _, a := range odd {
		for _, b := range odd {
			Of(a, b)
			Draw(a, b)
		}
	}
}

func TestOddMatrices(t *testing.T) {
	odd := [][][]api.Rat{
		nil, {}, {nil}, {{}}, {nil, {"1"}}, {{"1"}, nil}, {{"1"}, {"1", "2"}}, make([][]api.Rat, 64), make([][]api.Rat, 70),
		{{"0", "0"}, {"0", "0"}}, {{"", ""}}, {make([]api.Rat, 70)},
	}
	for _, a := range odd {
		CheckMatrix(a)
		Kernel(a)
		Rank(a)
		for _, b := range odd {
			Multiply(a, b)
			for _, row := range b {
				Solve(a, row)
			}
		}
		Solve(a, nil)
	}
}
