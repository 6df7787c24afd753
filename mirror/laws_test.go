package mirror_test

import (
	"math/big"
	"math/rand"
	"slices"
	"testing"

	"lenslet/api"
	"lenslet/mirror"
)

// P4.5: consequences.

func farOf(t *testing.T, m Mirror, a, b numbers) *big.Rat {
	t.Helper()
	return asBig(t, sure[api.Rat](t)(mirror.Far(m, a, b)))
}

func TestNoOtherCommandIsAsNear(t *testing.T) {
	r := rand.New(rand.NewSource(10))
	for range 100 {
		m := randomMirror(r, r.Intn(8)+1)
		target := randomNumbers(r, len(m.Actuators))
		c := sure[found](t)(nearest(m, target)).c
		same(t, "CheckCommand", mirror.CheckCommand(m, c), api.OK)
		least := farOf(t, m, c, target)
		for n := range 20 {
			other := randomCommand(t, r, m)
			if n%2 == 0 { // a neighbour of the nearest command
				other = sure[numbers](t)(mirror.Blend(m, c, other, "1/64"))
			}
			if !slices.Equal(other, c) && farOf(t, m, other, target).Cmp(least) <= 0 {
				t.Errorf("%v is as near to %v as the nearest command %v of %v", other, target, c, m)
			}
		}
	}
}

func TestNearestOfCommandIsTheCommand(t *testing.T) {
	r := rand.New(rand.NewSource(11))
	for range 200 {
		m := randomMirror(r, r.Intn(16)+1)
		c := randomCommand(t, r, m)
		same(t, "CheckCommand", mirror.CheckCommand(m, c), api.OK)
		same(t, "Nearest", sure[found](t)(nearest(m, c)).c, c)
		zero := Proof{slices.Repeat(numbers{"0"}, len(m.Actuators)), slices.Repeat(numbers{"0"}, len(m.Links))}
		same(t, "CheckNearest without forces", mirror.CheckNearest(m, c, c, zero), api.OK)
		c = sure[found](t)(nearest(m, randomNumbers(r, len(m.Actuators)))).c
		same(t, "Nearest to a nearest command", sure[found](t)(nearest(m, c)).c, c)
	}
}

func TestNearestWithoutLinksIsClipped(t *testing.T) {
	r := rand.New(rand.NewSource(12))
	for range 200 {
		m := changed(randomMirror(r, r.Intn(16)+1), func(m *Mirror) { m.Links = nil })
		target := randomNumbers(r, len(m.Actuators))
		same(t, "Nearest", sure[found](t)(nearest(m, target)).c, sure[numbers](t)(mirror.Clip(m, target)))
	}
}

func TestNearestCommandsAreNotFarther(t *testing.T) {
	r := rand.New(rand.NewSource(13))
	for range 300 {
		m := randomMirror(r, r.Intn(16)+1)
		a, b := randomNumbers(r, len(m.Actuators)), randomNumbers(r, len(m.Actuators))
		if r.Intn(2) == 0 {
			copy(b[1:], a[1:])
		}
		x, y := sure[found](t)(nearest(m, a)).c, sure[found](t)(nearest(m, b)).c
		if farOf(t, m, x, y).Cmp(farOf(t, m, a, b)) > 0 {
			t.Errorf("the nearest commands to %v and %v of %v are farther from each other", a, b, m)
		}
	}
}

func TestBlendsAreWithinTheLimits(t *testing.T) {
	r := rand.New(rand.NewSource(14))
	for range 200 {
		m := randomMirror(r, r.Intn(16)+1)
		a, b := randomCommand(t, r, m), randomCommand(t, r, m)
		for _, part := range []api.Rat{"0", "1/7", "1/2", "1"} {
			c := sure[numbers](t)(mirror.Blend(m, a, b, part))
			same(t, "CheckCommand of a blend", mirror.CheckCommand(m, c), api.OK)
			for i := range c {
				want := add(mul(sub(asBig(t, "1"), asBig(t, part)), asBig(t, a[i])), mul(asBig(t, part), asBig(t, b[i])))
				same(t, "Blend", c[i], fromBig(want))
			}
		}
	}
}

func TestSurfacesAreLinear(t *testing.T) {
	r := rand.New(rand.NewSource(15))
	for range 60 {
		m, places := randomMirror(r, r.Intn(12)+1), randomPlaces(r, 4)
		a, b := randomCommand(t, r, m), randomCommand(t, r, m)
		blended := sure[numbers](t)(mirror.Surface(m, sure[numbers](t)(mirror.Blend(m, a, b, "2/5")), places))
		x, y := sure[numbers](t)(mirror.Surface(m, a, places)), sure[numbers](t)(mirror.Surface(m, b, places))
		rows := sure[matrix](t)(mirror.Matrix(m, places))
		free := sure[[]int](t)(mirror.Free(m))
		for k := range places {
			want := add(mul(ratio(3, 5), asBig(t, x[k])), mul(ratio(2, 5), asBig(t, y[k])))
			same(t, "surface of a blend", blended[k], fromBig(want))
			sum := new(big.Rat)
			for j, i := range free {
				sum = add(sum, mul(asBig(t, rows[k][j]), asBig(t, a[i])))
			}
			same(t, "matrix times the free numbers", fromBig(sum), x[k])
		}
	}
}

func TestSurfacesTurnWithTheMirror(t *testing.T) {
	r := rand.New(rand.NewSource(16))
	for range 60 {
		m, places := randomMirror(r, r.Intn(12)+1), randomPlaces(r, 4)
		c := randomCommand(t, r, m)
		want := sure[numbers](t)(mirror.Surface(m, c, places))
		for quarters := range 5 {
			turned := sure[Mirror](t)(mirror.Turned(m, quarters))
			same(t, "Surface", sure[numbers](t)(mirror.Surface(turned, c, places)), want)
			for i, at := range places {
				places[i] = place(fromBig(neg(asBig(t, at.Y))), at.X)
			}
		}
	}
}

func TestRestHasNoPlane(t *testing.T) {
	r := rand.New(rand.NewSource(17))
	for range 100 {
		m := randomMirror(r, r.Intn(12)+5)
		got, e := offload(m, randomCommand(t, r, m))
		if e == api.ErrSingular {
			continue
		}
		again := sure[rested](t)(offload(m, got.rest))
		same(t, "plane of a rest", again.p, Plane{"0", "0", "0"})
		same(t, "rest of a rest", again.rest, got.rest)
	}
}

// TestCommandsFollowTargets follows a target through all functions.
func TestCommandsFollowTargets(t *testing.T) {
	m := changed(mixed(), func(m *Mirror) { m.Links = pairs{{0, 1}, {1, 2}, {0, 4}} })
	got := sure[found](t)(nearest(m, numbers{"4", "0", "0", "0", "0"}))
	same(t, "Nearest", got.c, numbers{"2", "1", "0", "2", "1"})
	at := sure[limits](t)(saturated(m, got.c))
	same(t, "Saturated", at, limits{[]int{0}, []int{0, 1, 2}})
	same(t, "Far", farOf(t, m, got.c, numbers{"4", "0", "0", "0", "0"}).RatString(), "6")
	half := sure[numbers](t)(mirror.Blend(m, got.c, numbers{"0", "0", "0", "0", "0"}, "1/2"))
	same(t, "Blend", half, numbers{"1", "1/2", "0", "1", "1/2"})
	same(t, "Surface", sure[numbers](t)(mirror.Surface(m, half, []api.Place{place("0", "0")})), numbers{"63/32"})
	rest := sure[rested](t)(offload(m, half))
	same(t, "Offload", rest, rested{numbers{"0", "0", "0", "0", "0"}, Plane{"1", "-1/2", "0"}})
}
