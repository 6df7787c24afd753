package sensor_test

import (
	"math"
	"math/big"
	"math/rand"
	"testing"

	"lenslet/api"
	"lenslet/sensor"
)

// P3.3: uncertainty.

type spans = [2]api.Span

func span(low, high api.Rat) api.Span { return api.Span{Low: low, High: high} }

func TestUncertain(t *testing.T) {
	list := frame{{1, 3, 0, 0}, {0, 0, 2, 2}}
	for _, row := range []struct {
		g       geometry
		list    frame
		lenslet int
		e       api.Rat
		want    spans
	}{
		{twin(), list, 0, "1", spans{span("-1/10", "1/2"), span("-1/2", "0")}},
		{twin(), list, 0, "0", spans{span("1/4", "1/4"), span("-1/2", "-1/2")}},
		{twin(), list, 0, "2", spans{span("-1/3", "1/2"), span("-1/2", "3/10")}},
		{twin(), list, 0, "1/2", spans{span("1/18", "7/18"), span("-1/2", "-1/4")}},
		{twin(), list, 1, "1", spans{span("-3/10", "3/10"), span("0", "1/2")}},
		{twin(), with(list, 2, 0, -1), 0, "1", spans{span("-1/10", "1/2"), span("-1/2", "0")}},
		{single(2), frame{{5, negativeZero()}, {0, 0}}, 0, "1", spans{span("-1/2", "-1/6"), span("-1/2", "-1/6")}},
		{geometry{1, 2, 2}, frame{{9, 9}, {9, 9}, {3, 0}, {0, 0}}, 1, "1", spans{span("-1/2", "0"), span("-1/2", "0")}},
		{single(3), frame{{0, 0, 0}, {0, 4, 0}, {0, 0, 0}}, 0, "1", spans{span("-1/2", "1/2"), span("-1/2", "1/2")}},
		{single(2), frame{{2 * least, 0}, {0, 0}}, 0, "1/713623846352979940529142984724747568191373312", spans{span("-1/2", "1/6"), span("-1/2", "1/6")}},
	} {
		same(t, "Uncertain", sure[spans](t)(sensor.Uncertain(row.g, row.list, row.lenslet, row.e)), row.want)
	}
}

func TestUncertainErrors(t *testing.T) {
	g, list := twin(), frame{{1, 3, 0, 0}, {0, 0, 2, 2}}
	for _, row := range []struct {
		list    frame
		lenslet int
		e       api.Rat
		want    api.Errno
	}{
		{list, -1, "x", api.ErrRange}, {list, 2, "x", api.ErrRange}, {list, math.MinInt, "1", api.ErrRange}, {list, math.MaxInt, "1", api.ErrRange},
		{with(list, 0, 0, -1), 0, "0", api.ErrRange}, {with(list, 0, 0, -least), 0, nines(600), api.ErrRange}, {with(list, 2, 1, -1), 1, "0", api.ErrRange},
		{list, 0, "3", api.ErrZero}, {list, 0, "4", api.ErrZero}, {list, 0, nines(600), api.ErrZero}, {list, 1, "2", api.ErrZero},
		{filled(g, 0), 0, "0", api.ErrZero}, {filled(g, negativeZero()), 1, "0", api.ErrZero},
		{frame{{5, 30, 0, 0}, {2, 0, 0, 0}}, 0, "1/" + nines(600), api.ErrLarge},
	} {
		fails[spans](t, "Uncertain", row.want)(sensor.Uncertain(g, row.list, row.lenslet, row.e))
	}
	for a, e := range badAmounts() {
		fails[spans](t, "Uncertain", e)(sensor.Uncertain(g, with(list, 0, 0, -1), 0, a))
		fails[spans](t, "Uncertain", api.ErrRange)(sensor.Uncertain(g, list, 2, a))
		fails[spans](t, "Uncertain", api.ErrShape)(sensor.Uncertain(g, list[:1], 2, a))
	}
	for _, row := range badFrames() {
		fails[spans](t, "Uncertain", row.e)(sensor.Uncertain(g, row.frame, -1, "x"))
	}
	for _, bad := range badGeometries() {
		fails[spans](t, "Uncertain", api.ErrRange)(sensor.Uncertain(bad, nil, 0, "1"))
	}
}

// corners visits all counts each of which is at an end of its interval.
func corners(low, high [][]*big.Rat, visit func(values [][]*big.Rat)) {
	side := len(low)
	for bits := range 1 << (side * side) {
		values := make([][]*big.Rat, side)
		for k := range side {
			for i := range side {
				end := low[k][i]
				if bits>>(k*side+i)&1 == 1 {
					end = high[k][i]
				}
				values[k] = append(values[k], end)
			}
		}
		visit(values)
	}
}

// uncertain returns the spans of a centroid from their definition: the
// greatest and the least centroid are at corners.
func uncertain(values [][]*big.Rat, e *big.Rat) spans {
	low, high := make([][]*big.Rat, len(values)), make([][]*big.Rat, len(values))
	for k, row := range values {
		for _, x := range row {
			below := sub(x, e)
			if below.Sign() < 0 {
				below = new(big.Rat)
			}
			low[k], high[k] = append(low[k], below), append(high[k], add(x, e))
		}
	}
	ends := [2][2]*big.Rat{}
	corners(low, high, func(values [][]*big.Rat) {
		for axis, x := range centroidOf(values) {
			if ends[axis][0] == nil || x.Cmp(ends[axis][0]) < 0 {
				ends[axis][0] = x
			}
			if ends[axis][1] == nil || x.Cmp(ends[axis][1]) > 0 {
				ends[axis][1] = x
			}
		}
	})
	return spans{span(fromBig(ends[0][0]), fromBig(ends[0][1])), span(fromBig(ends[1][0]), fromBig(ends[1][1]))}
}

func TestUncertainFromItsDefinition(t *testing.T) {
	r := rand.New(rand.NewSource(6))
	for i := range 60 {
		g := geometry{2, 2, 2}
		if i%10 == 0 {
			g.Side = 3
		}
		list := randomFrame(r, g, randomCount)
		e := ratio(r.Intn(40), r.Intn(9)+1)
		lenslet := r.Intn(4)
		values := behind(g, list, lenslet)
		dark := true
		for _, row := range values {
			for _, x := range row {
				dark = dark && x.Cmp(e) <= 0
			}
		}
		if dark {
			fails[spans](t, "Uncertain", api.ErrZero)(sensor.Uncertain(g, list, lenslet, fromBig(e)))
			continue
		}
		same(t, "Uncertain", sure[spans](t)(sensor.Uncertain(g, list, lenslet, fromBig(e))), uncertain(values, e))
	}
}
