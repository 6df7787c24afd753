package mirror_test

import (
	"math"
	"slices"
	"testing"

	"lenslet/api"
	"lenslet/mirror"
)

// P1: every function terminates and does not panic, for all arguments. The
// rules on memory: arguments are not changed, and results share no memory.

func oddMirrors() []Mirror {
	list := append(goodMirrors(), Mirror{}, Mirror{Actuators: make([]Actuator, 1000)}, Mirror{Links: make(pairs, 3), Slaves: make(pairs, 3)}, Mirror{Links: make(pairs, 1000), Slaves: make(pairs, 1000)})
	for _, bad := range badMirrors() {
		list = append(list, bad.m)
	}
	return list
}

func TestOddArguments(t *testing.T) {
	odd := []numbers{nil, {}, {""}, {"1", "2/4"}, {"0", "0", "0"}, {"0", "0", "0", "0", "0"}, make(numbers, 16), make(numbers, 1000), {nines(600), "-" + nines(600), "1/" + nines(600)}}
	places := [][]api.Place{nil, {{}}, {place("1/3", "-"+nines(600))}, make([]api.Place, 256), make([]api.Place, 1000)}
	for _, m := range oddMirrors() {
		everyError(m)
		for i, list := range odd {
			mirror.CheckCommand(m, list)
			mirror.Expand(m, list)
			mirror.Clip(m, list)
			mirror.Nearest(m, list)
			mirror.Saturated(m, list)
			mirror.Offload(m, list)
			for _, other := range odd {
				mirror.Far(m, list, other)
				mirror.Blend(m, list, other, "1/2")
				mirror.CheckNearest(m, list, list, Proof{list, other})
			}
			for _, at := range places {
				mirror.Surface(m, list, at)
			}
			mirror.CheckNearest(m, odd[i], odd[len(odd)-1-i], Proof{})
		}
		for _, n := range []int{math.MinInt, -1, 0, 2, 16, math.MaxInt} {
			mirror.Poke(m, n, "1")
			mirror.Influence(m, n, place("1/2", "0"))
			mirror.Turned(m, n)
		}
		for _, at := range places {
			mirror.Matrix(m, at)
		}
	}
	mirror.PlaneAt(Plane{}, api.Place{})
	mirror.PlaneAt(Plane{"1", "x", "\xff"}, place("1", "1"))
}

func TestArgumentsAreNotChanged(t *testing.T) {
	m, target, c, places := mixed(), numbers{"1", "5", "9", "7", "-3"}, numbers{"1", "1", "0", "1", "-2"}, []api.Place{place("1", "0"), place("0", "0")}
	p := Proof{numbers{"0", "0", "0", "0", "-1"}, numbers{"0", "4"}}
	same(t, "CheckNearest", mirror.CheckNearest(m, target, c, p), api.OK)
	sure[numbers](t)(mirror.Expand(m, target[:3]))
	sure[numbers](t)(mirror.Clip(m, target))
	sure[found](t)(nearest(m, target))
	sure[api.Rat](t)(mirror.Far(m, target, c))
	sure[limits](t)(saturated(m, c))
	sure[numbers](t)(mirror.Blend(m, c, c, "1/3"))
	sure[rested](t)(offload(m, target))
	sure[numbers](t)(mirror.Surface(m, c, places))
	sure[matrix](t)(mirror.Matrix(m, places))
	sure[numbers](t)(mirror.Waffle(m, "1"))
	sure[Mirror](t)(mirror.Turned(m, 3))
	same(t, "a mirror", m, mixed())
	same(t, "a target", target, numbers{"1", "5", "9", "7", "-3"})
	same(t, "a command", c, numbers{"1", "1", "0", "1", "-2"})
	same(t, "places", places, []api.Place{place("1", "0"), place("0", "0")})
	same(t, "a proof", p, Proof{numbers{"0", "0", "0", "0", "-1"}, numbers{"0", "4"}})
}

func TestResultsShareNoMemory(t *testing.T) {
	m, c := mixed(), numbers{"1", "1", "0", "1", "-2"}
	for quarters := range 4 {
		turned := sure[Mirror](t)(mirror.Turned(m, quarters))
		clear(turned.Actuators)
		clear(turned.Links)
		clear(turned.Slaves)
		same(t, "a mirror whose result is cleared", m, mixed())
	}
	for _, result := range []numbers{
		sure[numbers](t)(mirror.Clip(m, c)), sure[numbers](t)(mirror.Blend(m, c, c, "0")), sure[found](t)(nearest(m, c)).c, sure[numbers](t)(mirror.Expand(m, c[:3])),
	} {
		clear(result)
		same(t, "a command whose results are cleared", c, numbers{"1", "1", "0", "1", "-2"})
	}
	got := sure[found](t)(nearest(m, c))
	proof := Proof{slices.Clone(got.p.Actuators), slices.Clone(got.p.Links)}
	clear(got.c)
	same(t, "a proof whose command is cleared", got.p, proof)
	clear(got.p.Actuators)
	same(t, "the forces of links", got.p.Links, proof.Links)
	rows := sure[matrix](t)(mirror.Matrix(m, []api.Place{place("0", "0"), place("0", "0")}))
	clear(rows[0])
	same(t, "the other row", rows[1], numbers{"25/16", "9/16", "1/4"})
}
