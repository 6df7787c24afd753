package reconstruct_test

import (
	"math"
	"math/big"
	"math/rand"
	"testing"

	"lenslet/api"
	"lenslet/reconstruct"
)

// P5.4: products.

func TestProductsOfExample(t *testing.T) {
	d, w := matrix{{"1"}, {"2"}}, numbers{"1", "1"}
	r := matrix{{"1/5", "2/5"}}
	same(t, "Apply", sure[numbers](t)(reconstruct.Apply(r, numbers{"5", "0"})), numbers{"1"})
	same(t, "Residual", sure[numbers](t)(reconstruct.Residual(d, numbers{"5", "0"}, numbers{"1"})), numbers{"4", "-2"})
	same(t, "Cost", sure[api.Rat](t)(reconstruct.Cost(d, w, numbers{"5", "0"}, numbers{"1"})), "20")
	same(t, "Cost with weights", sure[api.Rat](t)(reconstruct.Cost(d, numbers{"1/2", "3"}, numbers{"5", "0"}, numbers{"1"})), "20")
	same(t, "Noise", sure[numbers](t)(reconstruct.Noise(r, w)), numbers{"1/5"})
	same(t, "Compose", sure[numbers](t)(reconstruct.Compose(matrix{{"1", "0", "-1"}, {"0", "1", "-1"}}, numbers{"2", "3"})), numbers{"2", "3", "-5"})
	same(t, "Dropped", sure[matrix](t)(reconstruct.Dropped(example(), []int{0})), matrix{{"0", "1", "-1"}})
}

func TestProductsByDefinition(t *testing.T) {
	sized(t, 7, 300, func(r *rand.Rand, rows, columns int) {
		m, s, c, w, v := randomTable(r, rows, columns), randomValues(r, rows), randomValues(r, columns), randomWeights(r, rows), randomWeights(r, columns)
		v[0] = new(big.Rat)
		var times, rest, noise, composed values
		cost := new(big.Rat)
		for i, row := range m {
			x := dot(row, c)
			difference := sub(s[i], x)
			times, rest = append(times, x), append(rest, difference)
			cost = add(cost, mul(w[i], mul(difference, difference)))
			variance := new(big.Rat)
			for k, y := range row {
				variance = add(variance, mul(v[k], mul(y, y)))
			}
			noise = append(noise, variance)
		}
		for _, column := range transposed(m) {
			composed = append(composed, dot(column, s))
		}
		d, slopes, command := rowsFromBig(m), allFromBig(s), allFromBig(c)
		same(t, "Apply", sure[numbers](t)(reconstruct.Apply(d, command)), allFromBig(times))
		same(t, "Compose", sure[numbers](t)(reconstruct.Compose(d, slopes)), allFromBig(composed))
		same(t, "Residual", sure[numbers](t)(reconstruct.Residual(d, slopes, command)), allFromBig(rest))
		same(t, "Cost", sure[api.Rat](t)(reconstruct.Cost(d, allFromBig(w), slopes, command)), fromBig(cost))
		same(t, "Noise", sure[numbers](t)(reconstruct.Noise(d, allFromBig(v))), allFromBig(noise))
	})
}

func TestProductsOfTheGreatestSize(t *testing.T) {
	same(t, "Apply", sure[numbers](t)(reconstruct.Apply(full(64, 64, "1/2"), filled(64, "-1"))), filled(64, "-32"))
	same(t, "Noise", sure[numbers](t)(reconstruct.Noise(full(64, 64, "1/2"), filled(64, "1/3"))), filled(64, "16/3"))
	same(t, "Compose", sure[numbers](t)(reconstruct.Compose(full(16, 16, "1"), filled(16, "1/2"))), filled(16, "8"))
	same(t, "Residual", sure[numbers](t)(reconstruct.Residual(full(64, 16, "1"), filled(64, "16"), filled(16, "1"))), filled(64, "0"))
	same(t, "Cost", sure[api.Rat](t)(reconstruct.Cost(full(64, 16, "1"), filled(64, "1/2"), filled(64, "17"), filled(16, "1"))), "32")
}

func TestAppliedMatricesWithErrors(t *testing.T) {
	for _, bad := range badMatrices(api.MaxSlopes) {
		fails[numbers](t, "Apply", bad.e)(reconstruct.Apply(bad.m, numbers{"1", "1"}))
		fails[numbers](t, "Apply", bad.e)(reconstruct.Apply(bad.m, numbers{"x"}))
		fails[numbers](t, "Noise", bad.e)(reconstruct.Noise(bad.m, numbers{"1", "1"}))
		fails[numbers](t, "Noise", bad.e)(reconstruct.Noise(bad.m, numbers{"-1"}))
	}
	badVariances := badWeights()
	delete(badVariances, "0")
	for _, bad := range badLists(3, badNumbers()) {
		fails[numbers](t, "Apply", bad.e)(reconstruct.Apply(example(), bad.list))
	}
	for _, bad := range badLists(3, badVariances) {
		fails[numbers](t, "Noise", bad.e)(reconstruct.Noise(example(), bad.list))
	}
	fails[numbers](t, "Noise, the first bad variance", api.ErrRange)(reconstruct.Noise(example(), numbers{"0", "-1", "x"}))
	same(t, "Noise without variances", sure[numbers](t)(reconstruct.Noise(example(), numbers{"0", "0", "0"})), numbers{"0", "0"})
}

func TestComposeWithErrors(t *testing.T) {
	for _, row := range []badMatrix{
		{nil, api.ErrEmpty}, {make(matrix, 17), api.ErrMany}, {full(17, 1, "x"), api.ErrMany}, {full(17, 17, "x"), api.ErrMany},
		{matrix{nil}, api.ErrEmpty}, {matrix{{}, filled(17, "x")}, api.ErrEmpty}, {make(matrix, 16), api.ErrEmpty},
		{full(1, 17, "1"), api.ErrMany}, {full(1, 17, "x"), api.ErrMany}, {append(full(1, 17, "1"), nil), api.ErrMany},
		{matrix{{"1"}, filled(17, "1")}, api.ErrShape}, {matrix{{"1", "2"}, {"x"}}, api.ErrShape}, {matrix{{"1", "2/4"}, {"x"}}, api.ErrForm}, {matrix{{"1"}, {tenTo(600)}, {"x"}}, api.ErrLarge},
	} {
		fails[numbers](t, "Compose", row.e)(reconstruct.Compose(row.m, filled(len(row.m), "1")))
		fails[numbers](t, "Compose", row.e)(reconstruct.Compose(row.m, numbers{"x", "y", "z"}))
	}
	for _, bad := range badLists(3, badNumbers()) {
		fails[numbers](t, "Compose", bad.e)(reconstruct.Compose(matrix{{"1", "2"}, {"3", "4"}, {"5", "6"}}, bad.list))
	}
}

func TestResidualAndCostWithErrors(t *testing.T) {
	d, two, three := example(), numbers{"1", "1"}, numbers{"1", "1", "1"}
	for _, bad := range badLists(2, badNumbers()) {
		fails[numbers](t, "Residual", bad.e)(reconstruct.Residual(d, bad.list, three))
		fails[numbers](t, "Residual", bad.e)(reconstruct.Residual(d, bad.list, numbers{"x", "", ""}))
		fails[api.Rat](t, "Cost", bad.e)(reconstruct.Cost(d, two, bad.list, three))
		fails[api.Rat](t, "Cost", bad.e)(reconstruct.Cost(d, two, bad.list, numbers{"x", "", ""}))
	}
	for _, bad := range badLists(3, badNumbers()) {
		fails[numbers](t, "Residual", bad.e)(reconstruct.Residual(d, two, bad.list))
		fails[api.Rat](t, "Cost", bad.e)(reconstruct.Cost(d, two, two, bad.list))
	}
	for _, bad := range badLists(2, badWeights()) {
		fails[api.Rat](t, "Cost", bad.e)(reconstruct.Cost(d, bad.list, two, three))
		fails[api.Rat](t, "Cost", bad.e)(reconstruct.Cost(d, bad.list, numbers{"x"}, nil))
	}
}

func TestDropped(t *testing.T) {
	d := matrix{{"0", "1"}, {"1", "2"}, {"2", "3"}, {"3", "4"}}
	for _, row := range []struct {
		slopes []int
		want   matrix
	}{
		{nil, d}, {[]int{}, d}, {[]int{0}, d[1:]}, {[]int{3}, d[:3]}, {[]int{1, 2}, matrix{d[0], d[3]}}, {[]int{0, 2, 3}, d[1:2]},
	} {
		same(t, "Dropped", sure[matrix](t)(reconstruct.Dropped(d, row.slopes)), row.want)
	}
	for _, row := range []struct {
		slopes []int
		e      api.Errno
	}{
		{[]int{-1}, api.ErrUnknown}, {[]int{4}, api.ErrUnknown}, {[]int{math.MinInt}, api.ErrUnknown}, {[]int{math.MaxInt}, api.ErrUnknown}, {[]int{0, 1, 4}, api.ErrUnknown}, {[]int{3, -1}, api.ErrUnknown},
		{[]int{0, 0}, api.ErrOrder}, {[]int{2, 1}, api.ErrOrder}, {[]int{1, 0, 4}, api.ErrOrder}, {[]int{4, 1, 0}, api.ErrUnknown}, {[]int{0, 1, 2, 3, 3}, api.ErrOrder}, {[]int{0, 1, 2, 3, 4}, api.ErrUnknown},
		{[]int{0, 1, 2, 3}, api.ErrEmpty},
	} {
		fails[matrix](t, "Dropped", row.e)(reconstruct.Dropped(d, row.slopes))
	}
	fails[matrix](t, "Dropped, the only row", api.ErrEmpty)(reconstruct.Dropped(d[:1], []int{0}))
	many := full(64, 16, "1/"+nines(600))
	same(t, "Dropped from many", sure[matrix](t)(reconstruct.Dropped(many, []int{0, 63})), many[:62])
}

func TestLargeProducts(t *testing.T) {
	huge, half := nines(600), tenTo(300)
	fails[numbers](t, "Apply", api.ErrLarge)(reconstruct.Apply(matrix{{"1"}, {half}}, numbers{half}))
	same(t, "Apply with large numbers on the way", sure[numbers](t)(reconstruct.Apply(matrix{{huge, "-" + huge}}, numbers{huge, huge})), numbers{"0"})
	fails[numbers](t, "Compose", api.ErrLarge)(reconstruct.Compose(matrix{{"1", huge}}, numbers{"2"}))
	same(t, "Compose with large numbers on the way", sure[numbers](t)(reconstruct.Compose(matrix{{huge}, {huge}}, numbers{"-" + huge, huge})), numbers{"0"})
	fails[numbers](t, "Residual", api.ErrLarge)(reconstruct.Residual(matrix{{"1"}, {"-1"}}, numbers{huge, huge}, numbers{"1"}))
	same(t, "Residual of 600 digits", sure[numbers](t)(reconstruct.Residual(matrix{{"1"}}, numbers{huge}, numbers{"0"})), numbers{huge})
	same(t, "Residual with large numbers on the way", sure[numbers](t)(reconstruct.Residual(matrix{{huge, huge}}, numbers{"1"}, numbers{huge, "-" + huge})), numbers{"1"})
	fails[api.Rat](t, "Cost", api.ErrLarge)(reconstruct.Cost(matrix{{"0"}}, numbers{"1"}, numbers{half}, numbers{"0"}))
	same(t, "Cost with large numbers on the way", sure[api.Rat](t)(reconstruct.Cost(matrix{{"0"}}, numbers{"1/" + half}, numbers{half}, numbers{"1"})), half)
	fails[numbers](t, "Noise", api.ErrLarge)(reconstruct.Noise(matrix{{"1"}, {half}}, numbers{"1"}))
	same(t, "Noise with large numbers on the way", sure[numbers](t)(reconstruct.Noise(matrix{{half}, {"1"}}, numbers{"1/" + half})), numbers{half, "1/" + half})
}
