package mirror_test

import (
	"math/big"
	"math/rand"
	"reflect"
	"slices"
	"strings"
	"testing"

	"lenslet/api"
	"lenslet/mirror"
	"lenslet/number"
)

type (
	Mirror   = mirror.Mirror
	Actuator = mirror.Actuator
	Proof    = mirror.Proof
	Plane    = mirror.Plane
	numbers  = []api.Rat
	matrix   = [][]api.Rat
	pairs    = [][2]int
)

// same reports a result that differs from the expected one; a nil slice and
// an empty one are the same.
func same[T any](t *testing.T, what string, got, want T) {
	t.Helper()
	g, w := reflect.ValueOf(got), reflect.ValueOf(want)
	if g.Kind() == reflect.Slice && g.Len() == 0 && w.Len() == 0 {
		return
	}
	if !reflect.DeepEqual(got, want) {
		t.Errorf("%s: got %v, want %v", what, got, want)
	}
}

// fails reports a call that does not return an error beside a zero value.
func fails[T any](t *testing.T, what string, want api.Errno) func(T, api.Errno) {
	t.Helper()
	return func(got T, e api.Errno) {
		t.Helper()
		var zero T
		if e != want {
			t.Errorf("%s: got error %d, want %d", what, e, want)
		}
		same(t, what+" beside an error", got, zero)
	}
}

// sure returns a result that has no error.
func sure[T any](t *testing.T) func(T, api.Errno) T {
	t.Helper()
	return func(got T, e api.Errno) T {
		t.Helper()
		if e != api.OK {
			t.Fatalf("error %d", e)
		}
		return got
	}
}

func asBig(t *testing.T, a api.Rat) *big.Rat {
	t.Helper()
	if e := number.Check(a); e != api.OK {
		t.Fatalf("%q is no number: error %d", a, e)
	}
	x, ok := new(big.Rat).SetString(string(a))
	if !ok {
		t.Fatalf("%q is no number", a)
	}
	return x
}

func allBig(t *testing.T, list numbers) []*big.Rat {
	t.Helper()
	values := make([]*big.Rat, len(list))
	for i, a := range list {
		values[i] = asBig(t, a)
	}
	return values
}

func fromBig(x *big.Rat) api.Rat { return api.Rat(x.RatString()) }

func allFromBig(list []*big.Rat) numbers {
	values := numbers{}
	for _, x := range list {
		values = append(values, fromBig(x))
	}
	return values
}

func add(x, y *big.Rat) *big.Rat { return new(big.Rat).Add(x, y) }

func sub(x, y *big.Rat) *big.Rat { return new(big.Rat).Sub(x, y) }

func mul(x, y *big.Rat) *big.Rat { return new(big.Rat).Mul(x, y) }

func div(x, y *big.Rat) *big.Rat { return new(big.Rat).Quo(x, y) }

func neg(x *big.Rat) *big.Rat { return new(big.Rat).Neg(x) }

func ratio(num, den int) *big.Rat { return big.NewRat(int64(num), int64(den)) }

func nines(n int) api.Rat { return api.Rat(strings.Repeat("9", n)) }

// tenTo returns 10^n.
func tenTo(n int) api.Rat { return api.Rat("1" + strings.Repeat("0", n)) }

// badNumbers are strings with the errors of number.Check.
func badNumbers() map[api.Rat]api.Errno {
	return map[api.Rat]api.Errno{"": api.ErrForm, "x": api.ErrForm, "2/4": api.ErrForm, "1/0": api.ErrForm, "-0": api.ErrForm, tenTo(600): api.ErrLarge, "1/" + tenTo(600): api.ErrLarge}
}

// badLimits are strings with the errors of numbers that must be above 0.
func badLimits() map[api.Rat]api.Errno {
	list := badNumbers()
	list["0"] = api.ErrRange
	list["-1"] = api.ErrRange
	list["-1/"+nines(600)] = api.ErrRange
	return list
}

func place(x, y api.Rat) api.Place { return api.Place{X: x, Y: y} }

// row is the mirror M of the document's examples.
func row() Mirror {
	return Mirror{
		Actuators: []Actuator{{At: place("0", "0")}, {At: place("1", "0")}, {At: place("2", "0")}},
		Reach:     "4",
		Stroke:    "2",
		Gap:       "1",
		Links:     pairs{{0, 1}, {1, 2}},
	}
}

// changed returns a copy of a mirror that a function has changed.
func changed(m Mirror, change func(*Mirror)) Mirror {
	m.Actuators, m.Links, m.Slaves = slices.Clone(m.Actuators), slices.Clone(m.Links), slices.Clone(m.Slaves)
	change(&m)
	return m
}

// mixed has two free actuators in a row with a dead one, a slave of the first
// one, and a free one without links.
func mixed() Mirror {
	return changed(row(), func(m *Mirror) {
		m.Actuators[2].Dead = true
		m.Actuators = append(m.Actuators, Actuator{At: place("0", "1")}, Actuator{At: place("1", "1")})
		m.Slaves = pairs{{3, 0}}
	})
}

// square has four actuators without links.
func square() Mirror {
	return changed(row(), func(m *Mirror) {
		m.Actuators = []Actuator{{At: place("0", "0")}, {At: place("1", "0")}, {At: place("0", "1")}, {At: place("1", "1")}}
		m.Links = nil
	})
}

// line has actuators in a row, each linked to the next one.
func line(actuators int) Mirror {
	m := Mirror{Reach: "1", Stroke: "2", Gap: "1"}
	for i := range actuators {
		m.Actuators = append(m.Actuators, Actuator{At: place(fromBig(ratio(i, 1)), "0")})
		if i > 0 {
			m.Links = append(m.Links, [2]int{i - 1, i})
		}
	}
	return m
}

// dead has dead actuators alone.
func dead() Mirror {
	return changed(row(), func(m *Mirror) {
		for i := range m.Actuators {
			m.Actuators[i].Dead = true
		}
	})
}

func goodMirrors() []Mirror {
	return []Mirror{
		row(), mixed(), square(), line(1), line(16), dead(),
		changed(row(), func(m *Mirror) { m.Links, m.Slaves = nil, pairs{{0, 1}, {2, 1}} }),
		changed(row(), func(m *Mirror) { m.Links, m.Slaves = pairs{{0, 1}}, pairs{{2, 0}} }),
		changed(row(), func(m *Mirror) { m.Reach, m.Stroke, m.Gap = "1/"+nines(600), nines(600), "1/2" }),
		changed(square(), func(m *Mirror) { m.Links = pairs{{1, 3}, {2, 3}, {0, 3}} }),
	}
}

// isFree reports whether an actuator is neither dead nor slaved.
func isFree(m Mirror, i int) bool {
	slaved := slices.ContainsFunc(m.Slaves, func(s [2]int) bool { return s[0] == i })
	return !slaved && !m.Actuators[i].Dead
}

// completed gives dead actuators 0, and slaves the numbers of their masters.
func completed(m Mirror, list []*big.Rat) []*big.Rat {
	c := slices.Clone(list)
	for i, a := range m.Actuators {
		if a.Dead {
			c[i] = new(big.Rat)
		}
	}
	for _, slave := range m.Slaves {
		c[slave[0]] = c[slave[1]]
	}
	return c
}

func randomRat(r *rand.Rand) api.Rat { return fromBig(ratio(r.Intn(25)-12, r.Intn(4)+1)) }

func randomNumbers(r *rand.Rand, n int) numbers {
	list := make(numbers, n)
	for i := range list {
		list[i] = randomRat(r)
	}
	return list
}

func randomPlaces(r *rand.Rand, n int) []api.Place {
	list := make([]api.Place, n)
	for i := range list {
		list[i] = place(randomRat(r), randomRat(r))
	}
	return list
}

// randomMirror returns a mirror with some actuators, and dead ones, links and
// slaves among them.
func randomMirror(r *rand.Rand, actuators int) Mirror {
	m := Mirror{Reach: fromBig(ratio(r.Intn(20)+1, 2)), Stroke: fromBig(ratio(r.Intn(4)+1, 1)), Gap: fromBig(ratio(r.Intn(4)+1, 2))}
	for _, cell := range r.Perm(25)[:actuators] {
		at := place(fromBig(ratio(cell%5-2, 2)), fromBig(ratio(cell/5-2, 2)))
		m.Actuators = append(m.Actuators, Actuator{At: at, Dead: r.Intn(6) == 0})
	}
	group := make([]int, actuators)
	for i := range group {
		group[i] = i
	}
	for range r.Intn(3 * actuators) {
		a, b := r.Intn(actuators), r.Intn(actuators)
		if a >= b || group[a] == group[b] {
			continue
		}
		m.Links = append(m.Links, [2]int{a, b})
		old := group[b]
		for i := range group {
			if group[i] == old {
				group[i] = group[a]
			}
		}
	}
	for range r.Intn(actuators) {
		slave, master := r.Intn(actuators), r.Intn(actuators)
		tried := changed(m, func(m *Mirror) { m.Slaves = append(m.Slaves, [2]int{slave, master}) })
		if mirror.CheckMirror(tried) == api.OK {
			m = tried
		}
	}
	return m
}

// randomCommand returns a command within the limits.
func randomCommand(t *testing.T, r *rand.Rand, m Mirror) numbers {
	t.Helper()
	c := completed(m, allBig(t, randomNumbers(r, len(m.Actuators))))
	least := asBig(t, "1")
	for i, x := range c {
		if x.Sign() != 0 && isFree(m, i) {
			least = smaller(least, new(big.Rat).Abs(div(asBig(t, m.Stroke), x)))
		}
	}
	for _, link := range m.Links {
		if across := sub(c[link[0]], c[link[1]]); across.Sign() != 0 {
			least = smaller(least, new(big.Rat).Abs(div(asBig(t, m.Gap), across)))
		}
	}
	for i, x := range c {
		c[i] = mul(x, least)
	}
	return allFromBig(c)
}

func smaller(x, y *big.Rat) *big.Rat {
	if x.Cmp(y) < 0 {
		return x
	}
	return y
}
