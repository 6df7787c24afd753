package mirror_test

import (
	"math"
	"math/big"
	"math/rand"
	"testing"

	"lenslet/api"
	"lenslet/mirror"
)

// P4.2: surfaces.

// badPlaces are places with their errors.
func badPlaces() map[api.Place]api.Errno {
	list := map[api.Place]api.Errno{place("", tenTo(600)): api.ErrForm, place(tenTo(600), ""): api.ErrLarge}
	for a, e := range badNumbers() {
		list[place(a, "0")], list[place("0", a)], list[place(a, a)] = e, e, e
	}
	return list
}

// influenceOf returns the influence of an actuator, as the document says.
func influenceOf(t *testing.T, m Mirror, actuator int, at api.Place) *big.Rat {
	t.Helper()
	own := m.Actuators[actuator].At
	x, y := sub(asBig(t, at.X), asBig(t, own.X)), sub(asBig(t, at.Y), asBig(t, own.Y))
	d, reach := add(mul(x, x), mul(y, y)), asBig(t, m.Reach)
	if d.Cmp(reach) >= 0 {
		return new(big.Rat)
	}
	rest := sub(asBig(t, "1"), div(d, reach))
	return mul(rest, rest)
}

func TestInfluence(t *testing.T) {
	short := changed(row(), func(m *Mirror) { m.Reach = "1/4" })
	for _, one := range []struct {
		m        Mirror
		actuator int
		at       api.Place
		want     api.Rat
	}{
		{row(), 0, place("1", "0"), "9/16"}, {row(), 0, place("2", "0"), "0"}, {row(), 0, place("0", "0"), "1"}, {row(), 1, place("1", "-1"), "9/16"},
		{row(), 2, place("0", "3"), "0"}, {row(), 0, place("-6/5", "8/5"), "0"}, {row(), 0, place("1", "1"), "1/4"}, {row(), 2, place("1", "1/2"), "121/256"},
		{mixed(), 2, place("2", "0"), "1"}, {mixed(), 3, place("0", "0"), "9/16"}, {short, 0, place("1/2", "0"), "0"}, {short, 0, place("1/4", "0"), "9/16"},
		{row(), 0, place(nines(600), "-"+nines(600)), "0"},
	} {
		same(t, "Influence", sure[api.Rat](t)(mirror.Influence(one.m, one.actuator, one.at)), one.want)
	}
}

func TestInfluenceErrors(t *testing.T) {
	for _, unknown := range []int{-1, 5, math.MinInt, math.MaxInt} {
		fails[api.Rat](t, "Influence", api.ErrUnknown)(mirror.Influence(mixed(), unknown, place("x", "x")))
	}
	for at, e := range badPlaces() {
		fails[api.Rat](t, "Influence", e)(mirror.Influence(mixed(), 2, at))
	}
	fails[api.Rat](t, "Influence", api.ErrLarge)(mirror.Influence(row(), 0, place("1/"+nines(600), "0")))
	fails[api.Rat](t, "Influence", api.ErrLarge)(mirror.Influence(row(), 0, place("1/"+tenTo(151), "0")))
	same(t, "Influence", sure[api.Rat](t)(mirror.Influence(row(), 1, place("1/"+nines(600), "2"))), "0")
	// The distance has more than 600 digits, and its quotient by the reach few.
	short := changed(row(), func(m *Mirror) { m.Reach = "1/" + tenTo(598) })
	same(t, "Influence", sure[api.Rat](t)(mirror.Influence(short, 0, place("1/"+tenTo(300), "0"))), "9801/10000")
}

func TestInfluenceOfRandomMirrors(t *testing.T) {
	r := rand.New(rand.NewSource(2))
	for range 300 {
		m := randomMirror(r, r.Intn(6)+1)
		actuator, at := r.Intn(len(m.Actuators)), randomPlaces(r, 1)[0]
		same(t, "Influence", sure[api.Rat](t)(mirror.Influence(m, actuator, at)), fromBig(influenceOf(t, m, actuator, at)))
	}
}

func TestMatrix(t *testing.T) {
	slave := changed(row(), func(m *Mirror) { m.Links, m.Slaves = pairs{{0, 1}}, pairs{{2, 0}} })
	same(t, "Matrix", sure[matrix](t)(mirror.Matrix(slave, []api.Place{place("1", "0")})), matrix{{"9/8", "1"}})
	same(t, "Matrix", sure[matrix](t)(mirror.Matrix(row(), []api.Place{place("0", "0"), place("2", "1")})), matrix{{"1", "9/16", "0"}, {"0", "1/4", "9/16"}})
	same(t, "Matrix", sure[matrix](t)(mirror.Matrix(row(), nil)), nil)
	for _, list := range sure[matrix](t)(mirror.Matrix(dead(), []api.Place{place("0", "0"), place("1", "0")})) {
		same(t, "a row without free actuators", list, nil)
	}
	r := rand.New(rand.NewSource(3))
	for range 60 {
		m, places := randomMirror(r, r.Intn(16)+1), randomPlaces(r, 3)
		want := matrix{}
		for _, at := range places {
			list := numbers{}
			for i := range m.Actuators {
				if !isFree(m, i) {
					continue
				}
				sum := influenceOf(t, m, i, at)
				for _, slave := range m.Slaves {
					if slave[1] == i {
						sum = add(sum, influenceOf(t, m, slave[0], at))
					}
				}
				list = append(list, fromBig(sum))
			}
			want = append(want, list)
		}
		same(t, "Matrix", sure[matrix](t)(mirror.Matrix(m, places)), want)
	}
}

func TestSurface(t *testing.T) {
	surface := sure[numbers](t)(mirror.Surface(row(), numbers{"1", "0", "-1"}, []api.Place{place("1", "0"), place("0", "0")}))
	same(t, "Surface", surface, numbers{"0", "1"})
	same(t, "Surface", sure[numbers](t)(mirror.Surface(row(), numbers{"1", "0", "-1"}, nil)), nil)
	same(t, "Surface", sure[numbers](t)(mirror.Surface(dead(), numbers{"0", "0", "0"}, []api.Place{place("0", "0")})), numbers{"0"})
	r := rand.New(rand.NewSource(4))
	for range 60 {
		m, places := randomMirror(r, r.Intn(16)+1), randomPlaces(r, 3)
		c := randomCommand(t, r, m)
		want := numbers{}
		for _, at := range places {
			sum := new(big.Rat)
			for i, a := range c {
				sum = add(sum, mul(asBig(t, a), influenceOf(t, m, i, at)))
			}
			want = append(want, fromBig(sum))
		}
		same(t, "Surface", sure[numbers](t)(mirror.Surface(m, c, places)), want)
	}
}

func TestMatrixAndSurfaceErrors(t *testing.T) {
	many, most := make([]api.Place, 257), make([]api.Place, 256)
	for i := range most {
		most[i] = place("0", "0")
	}
	c := numbers{"1", "1", "0", "1", "1"}
	fails[matrix](t, "Matrix", api.ErrMany)(mirror.Matrix(mixed(), many))
	fails[numbers](t, "Surface", api.ErrMany)(mirror.Surface(mixed(), c, many))
	same(t, "Matrix of 256 places", len(sure[matrix](t)(mirror.Matrix(mixed(), most))), 256)
	same(t, "Surface of 256 places", len(sure[numbers](t)(mirror.Surface(mixed(), c, most))), 256)
	for at, e := range badPlaces() {
		fails[matrix](t, "Matrix", e)(mirror.Matrix(mixed(), []api.Place{at}))
		fails[matrix](t, "Matrix", e)(mirror.Matrix(dead(), []api.Place{place("1/"+nines(600), "0"), at, {}}))
		fails[numbers](t, "Surface", e)(mirror.Surface(mixed(), c, []api.Place{place("1/"+nines(600), "0"), at}))
	}
	for e, lists := range badCommands() {
		for _, bad := range lists {
			fails[numbers](t, "Surface", e)(mirror.Surface(mixed(), bad, many))
		}
	}
	tooLong := []api.Place{place("0", "0"), place("1/"+nines(600), "0")}
	fails[matrix](t, "Matrix", api.ErrLarge)(mirror.Matrix(row(), tooLong))
	fails[numbers](t, "Surface", api.ErrLarge)(mirror.Surface(row(), numbers{"1", "0", "0"}, tooLong))
	same(t, "Surface", sure[numbers](t)(mirror.Surface(row(), numbers{"0", "0", "0"}, tooLong)), numbers{"0", "0"})
}

func TestPlaneAt(t *testing.T) {
	for _, one := range []struct {
		p    Plane
		at   api.Place
		want api.Rat
	}{
		{Plane{"0", "1", "2"}, place("1", "1"), "3"}, {Plane{"1/2", "0", "0"}, place("7", "-9"), "1/2"}, {Plane{"1/2", "1/3", "-1/6"}, place("-3/2", "3"), "-1/2"},
		{Plane{"-1", "1", "0"}, place("1", nines(600)), "0"}, {Plane{"-" + nines(600), nines(600), "0"}, place("1", "0"), "0"}, {Plane{nines(600), nines(600), "-" + nines(600)}, place("1", "2"), "0"},
	} {
		same(t, "PlaneAt", sure[api.Rat](t)(mirror.PlaneAt(one.p, one.at)), one.want)
	}
	for a, e := range badNumbers() {
		fails[api.Rat](t, "PlaneAt", e)(mirror.PlaneAt(Plane{a, "x", tenTo(600)}, place("x", "x")))
		fails[api.Rat](t, "PlaneAt", e)(mirror.PlaneAt(Plane{"0", a, "x"}, place("x", "x")))
		fails[api.Rat](t, "PlaneAt", e)(mirror.PlaneAt(Plane{"0", "0", a}, place("", "")))
	}
	for at, e := range badPlaces() {
		fails[api.Rat](t, "PlaneAt", e)(mirror.PlaneAt(Plane{"0", "0", "0"}, at))
	}
	fails[api.Rat](t, "PlaneAt", api.ErrForm)(mirror.PlaneAt(Plane{}, place("0", "0")))
	fails[api.Rat](t, "PlaneAt", api.ErrLarge)(mirror.PlaneAt(Plane{nines(600), "1", "0"}, place("1", "0")))
	fails[api.Rat](t, "PlaneAt", api.ErrLarge)(mirror.PlaneAt(Plane{"0", "0", "1/" + nines(600)}, place("0", "1/7")))
}
