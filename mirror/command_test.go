package mirror_test

import (
	"math"
	"math/big"
	"math/rand"
	"slices"
	"testing"

	"lenslet/api"
	"lenslet/mirror"
)

// P4.4: commands.

// limits has the actuators and the links that are at a limit.
type limits struct {
	actuators, links []int
}

func saturated(m Mirror, c numbers) (limits, api.Errno) {
	actuators, links, e := mirror.Saturated(m, c)
	return limits{actuators, links}, e
}

func TestSaturated(t *testing.T) {
	narrow := changed(mixed(), func(m *Mirror) { m.Gap = "2" })
	for _, one := range []struct {
		m                Mirror
		c                numbers
		actuators, links []int
	}{
		{row(), numbers{"2", "1", "0"}, []int{0}, []int{0, 1}}, {row(), numbers{"0", "0", "0"}, nil, nil}, {row(), numbers{"-2", "-2", "-1"}, []int{0, 1}, []int{1}}, {row(), numbers{"0", "1", "0"}, nil, []int{0, 1}},
		{row(), numbers{"15/8", "1", "0"}, nil, []int{1}}, {mixed(), numbers{"2", "1", "0", "2", "-2"}, []int{0, 4}, []int{0, 1}}, {narrow, numbers{"0", "-2", "0", "0", "0"}, []int{1}, []int{0, 1}}, {dead(), numbers{"0", "0", "0"}, nil, nil},
		{changed(square(), func(m *Mirror) { m.Links = pairs{{1, 3}, {2, 3}, {0, 3}} }), numbers{"1", "1", "2", "2"}, []int{2, 3}, []int{0, 2}},
	} {
		got := sure[limits](t)(saturated(one.m, one.c))
		same(t, "saturated actuators", got.actuators, one.actuators)
		same(t, "saturated links", got.links, one.links)
	}
	for e, lists := range badCommands() {
		for _, bad := range lists {
			fails[limits](t, "Saturated", e)(saturated(mixed(), bad))
		}
	}
}

func TestBlend(t *testing.T) {
	for _, one := range []struct {
		m    Mirror
		a, b numbers
		part api.Rat
		want numbers
	}{
		{row(), numbers{"2", "1", "0"}, numbers{"0", "0", "0"}, "1/2", numbers{"1", "1/2", "0"}}, {row(), numbers{"2", "1", "0"}, numbers{"-1/3", "0", "1"}, "0", numbers{"2", "1", "0"}}, {row(), numbers{"2", "1", "0"}, numbers{"-1/3", "0", "1"}, "1", numbers{"-1/3", "0", "1"}},
		{row(), numbers{"2", "1", "0"}, numbers{"-1", "0", "1"}, "1/3", numbers{"1", "2/3", "1/3"}}, {mixed(), numbers{"1", "1", "0", "1", "0"}, numbers{"0", "1", "0", "0", "1"}, "1/4", numbers{"3/4", "1", "0", "3/4", "1/4"}},
		{row(), numbers{"0", "0", "0"}, numbers{"1/" + nines(600), "0", "0"}, "1", numbers{"1/" + nines(600), "0", "0"}}, {row(), numbers{"0", "1", "0"}, numbers{"0", "0", "0"}, "1/" + nines(600), numbers{"0", nines(599) + "8/" + nines(600), "0"}},
	} {
		same(t, "Blend", sure[numbers](t)(mirror.Blend(one.m, one.a, one.b, one.part)), one.want)
	}
	zeros := numbers{"0", "0", "0", "0", "0"}
	for e, lists := range badCommands() {
		for _, bad := range lists {
			fails[numbers](t, "Blend", e)(mirror.Blend(mixed(), bad, nil, "x"))
			fails[numbers](t, "Blend", e)(mirror.Blend(mixed(), zeros, bad, "2"))
		}
	}
	bad := badNumbers()
	bad["-1"], bad["2"], bad["-1/"+nines(600)] = api.ErrRange, api.ErrRange, api.ErrRange
	bad[nines(600)+"/"+nines(599)+"8"] = api.ErrRange
	for part, e := range bad {
		fails[numbers](t, "Blend", e)(mirror.Blend(mixed(), zeros, zeros, part))
	}
	fails[numbers](t, "Blend", api.ErrLarge)(mirror.Blend(row(), numbers{"0", "0", "1/" + nines(600)}, numbers{"0", "0", "0"}, "1/2"))
	fails[numbers](t, "Blend", api.ErrLarge)(mirror.Blend(row(), numbers{"0", "0", "0"}, numbers{"0", "0", "1/" + nines(300)}, "1/"+tenTo(301)))
}

// rested is the rest of numbers, and their plane.
type rested struct {
	rest numbers
	p    Plane
}

func offload(m Mirror, c numbers) (rested, api.Errno) {
	rest, p, e := mirror.Offload(m, c)
	return rested{rest, p}, e
}

func TestOffload(t *testing.T) {
	corner := changed(square(), func(m *Mirror) { m.Actuators[3].Dead = true })
	slave := changed(square(), func(m *Mirror) { m.Slaves = pairs{{3, 0}} })
	skew := changed(row(), func(m *Mirror) { m.Actuators[1].At = place("1", "1/2") })
	for _, one := range []struct {
		m    Mirror
		c    numbers
		want rested
	}{
		{square(), numbers{"0", "1", "2", "3"}, rested{numbers{"0", "0", "0", "0"}, Plane{"0", "1", "2"}}}, {square(), numbers{"1", "0", "0", "1"}, rested{numbers{"1/2", "-1/2", "-1/2", "1/2"}, Plane{"1/2", "0", "0"}}},
		{corner, numbers{"1", "2", "4", "9"}, rested{numbers{"0", "0", "0", "4"}, Plane{"1", "1", "3"}}}, {slave, numbers{"1", "2", "4", "-9"}, rested{numbers{"0", "0", "0", "-14"}, Plane{"1", "1", "3"}}},
		{skew, numbers{"0", "9", "4"}, rested{numbers{"0", "0", "0"}, Plane{"0", "2", "14"}}}, {square(), numbers{nines(600), nines(600), nines(600), nines(600)}, rested{numbers{"0", "0", "0", "0"}, Plane{nines(600), "0", "0"}}},
	} {
		same(t, "Offload", sure[rested](t)(offload(one.m, one.c)), one.want)
	}
	diagonal := changed(square(), func(m *Mirror) { m.Actuators[1].Dead, m.Actuators[2].Dead = true, true })
	two := changed(square(), func(m *Mirror) { m.Slaves = pairs{{0, 3}, {1, 2}} })
	for _, m := range []Mirror{row(), line(1), line(2), line(16), dead(), diagonal, two} {
		fails[rested](t, "Offload", api.ErrSingular)(offload(m, slices.Repeat(numbers{nines(600)}, len(m.Actuators))))
	}
	for e, lists := range badLists() {
		for _, bad := range lists {
			fails[rested](t, "Offload", e)(offload(mixed(), bad))
		}
	}
	// The plane alone, and the rest alone, have too many digits.
	short := changed(corner, func(m *Mirror) { m.Actuators[1].At, m.Actuators[3].At = place("1/10", "0"), place("0", "9") })
	fails[rested](t, "Offload", api.ErrLarge)(offload(short, numbers{"0", nines(600), "0", "0"}))
	far := changed(corner, func(m *Mirror) { m.Actuators[3].At = place("10", "0") })
	fails[rested](t, "Offload", api.ErrLarge)(offload(far, numbers{"0", nines(600), "0", "0"}))
	same(t, "Offload", sure[rested](t)(offload(corner, numbers{"0", nines(600), "0", "0"})).p, Plane{"0", nines(600), "0"})
}

// TestOffloadLeavesNoPlane has the conditions of the least sum: the rest of
// the free actuators is orthogonal to 1, X and Y.
func TestOffloadLeavesNoPlane(t *testing.T) {
	r := rand.New(rand.NewSource(8))
	for range 200 {
		m := randomMirror(r, r.Intn(16)+1)
		c := randomNumbers(r, len(m.Actuators))
		got, e := offload(m, c)
		if e == api.ErrSingular && collinear(t, m) {
			continue
		}
		same(t, "error of Offload", e, api.OK)
		sums := [3]*big.Rat{new(big.Rat), new(big.Rat), new(big.Rat)}
		for i, a := range m.Actuators {
			value := asBig(t, sure[api.Rat](t)(mirror.PlaneAt(got.p, a.At)))
			rest := asBig(t, got.rest[i])
			same(t, "rest and plane", fromBig(add(value, rest)), c[i])
			if isFree(m, i) {
				sums[0] = add(sums[0], rest)
				sums[1] = add(sums[1], mul(rest, asBig(t, a.At.X)))
				sums[2] = add(sums[2], mul(rest, asBig(t, a.At.Y)))
			}
		}
		for _, sum := range sums {
			same(t, "product of the rest and a plane", fromBig(sum), "0")
		}
	}
}

// collinear reports whether all free actuators lie on one line.
func collinear(t *testing.T, m Mirror) bool {
	t.Helper()
	var list []Actuator
	for i, a := range m.Actuators {
		if isFree(m, i) {
			list = append(list, a)
		}
	}
	to := func(i int) [2]*big.Rat {
		return [2]*big.Rat{sub(asBig(t, list[i].At.X), asBig(t, list[0].At.X)), sub(asBig(t, list[i].At.Y), asBig(t, list[0].At.Y))}
	}
	for i := range list {
		if a, b := to(1%len(list)), to(i); mul(a[0], b[1]).Cmp(mul(a[1], b[0])) != 0 {
			return false
		}
	}
	return true
}

func TestWaffle(t *testing.T) {
	star := changed(square(), func(m *Mirror) { m.Links = pairs{{1, 3}, {2, 3}, {0, 3}} })
	late := changed(square(), func(m *Mirror) { m.Links = pairs{{2, 3}, {1, 2}} })
	deadMiddle := changed(row(), func(m *Mirror) { m.Actuators[1].Dead = true })
	deadFirst := changed(row(), func(m *Mirror) { m.Actuators[0].Dead = true })
	slave := changed(line(4), func(m *Mirror) { m.Links, m.Slaves = pairs{{0, 1}, {1, 2}}, pairs{{3, 1}} })
	for _, one := range []struct {
		m    Mirror
		by   api.Rat
		want numbers
	}{
		{row(), "1/2", numbers{"1/2", "-1/2", "1/2"}}, {row(), "-9", numbers{"-9", "9", "-9"}}, {row(), "0", numbers{"0", "0", "0"}}, {square(), "3", numbers{"3", "3", "3", "3"}},
		{star, "1", numbers{"1", "1", "1", "-1"}}, {late, "1", numbers{"1", "1", "-1", "1"}}, {deadMiddle, "1", numbers{"1", "0", "1"}}, {deadFirst, "1", numbers{"0", "-1", "1"}},
		{slave, "1/3", numbers{"1/3", "-1/3", "1/3", "-1/3"}}, {mixed(), nines(600), numbers{nines(600), "-" + nines(600), "0", nines(600), nines(600)}}, {dead(), "1", numbers{"0", "0", "0"}},
	} {
		same(t, "Waffle", sure[numbers](t)(mirror.Waffle(one.m, one.by)), one.want)
	}
	for a, e := range badNumbers() {
		fails[numbers](t, "Waffle", e)(mirror.Waffle(mixed(), a))
	}
}

func TestWaffleAlternates(t *testing.T) {
	r := rand.New(rand.NewSource(9))
	for range 200 {
		m := randomMirror(r, r.Intn(16)+1)
		for i := range m.Actuators {
			m.Actuators[i].Dead = false
		}
		c := sure[numbers](t)(mirror.Waffle(m, "1"))
		first := make([]int, len(c)) // the least actuator that is connected to each one
		for i := range first {
			first[i] = i
		}
		for range m.Links {
			for _, link := range m.Links {
				least := min(first[link[0]], first[link[1]])
				first[link[0]], first[link[1]] = least, least
			}
		}
		for i := range c {
			if first[i] == i && isFree(m, i) {
				same(t, "the first one of connected actuators", c[i], "1")
			}
		}
		for _, link := range m.Links {
			same(t, "a linked actuator", c[link[1]], fromBig(neg(asBig(t, c[link[0]]))))
		}
		for _, slave := range m.Slaves {
			same(t, "a slave", c[slave[0]], c[slave[1]])
		}
	}
}

func TestTurned(t *testing.T) {
	m := changed(mixed(), func(m *Mirror) { m.Actuators[4].At = place("-1/2", nines(600)) })
	for _, one := range []struct {
		quarters int
		want     []api.Place
	}{
		{0, []api.Place{place("0", "0"), place("1", "0"), place("2", "0"), place("0", "1"), place("-1/2", nines(600))}},
		{1, []api.Place{place("0", "0"), place("0", "1"), place("0", "2"), place("-1", "0"), place("-"+nines(600), "-1/2")}},
		{2, []api.Place{place("0", "0"), place("-1", "0"), place("-2", "0"), place("0", "-1"), place("1/2", "-"+nines(600))}},
		{3, []api.Place{place("0", "0"), place("0", "-1"), place("0", "-2"), place("1", "0"), place(nines(600), "1/2")}},
	} {
		want := changed(m, func(m *Mirror) {
			for i := range m.Actuators {
				m.Actuators[i].At = one.want[i]
			}
		})
		for _, more := range []int{0, 4, -4, 4000, -4000, math.MinInt, math.MaxInt - 3} {
			same(t, "Turned", sure[Mirror](t)(mirror.Turned(m, one.quarters+more)), want)
		}
	}
	for _, bad := range badMirrors() {
		fails[Mirror](t, "Turned", bad.e)(mirror.Turned(bad.m, 1))
	}
}
