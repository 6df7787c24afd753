package mirror_test

import (
	"math"
	"math/rand"
	"testing"

	"lenslet/api"
	"lenslet/mirror"
)

// P4.1: mirrors.

// badMirror is a mirror with an error.
type badMirror struct {
	m Mirror
	e api.Errno
}

func badActuators() []badMirror {
	with := func(change func(list []Actuator) []Actuator) Mirror {
		return changed(row(), func(m *Mirror) {
			m.Actuators = change(m.Actuators)
			m.Reach, m.Links = "x", pairs{{1, 0}} // later errors
		})
	}
	at := func(i int, x, y api.Rat) Mirror {
		return with(func(list []Actuator) []Actuator { list[i].At = place(x, y); return list })
	}
	list := []badMirror{
		{Mirror{}, api.ErrEmpty}, {with(func([]Actuator) []Actuator { return nil }), api.ErrEmpty},
		{with(func([]Actuator) []Actuator { return make([]Actuator, 17) }), api.ErrMany},
		{with(func([]Actuator) []Actuator { return line(17).Actuators }), api.ErrMany},
		{at(1, "0", "0"), api.ErrTwice}, {at(2, "0", "0"), api.ErrTwice}, {at(2, "1", "0"), api.ErrTwice},
		{with(func(list []Actuator) []Actuator { list[1] = Actuator{list[0].At, true}; return list }), api.ErrTwice},
		{with(func(list []Actuator) []Actuator { list[1].At, list[2].At.X = list[0].At, "x"; return list }), api.ErrTwice},
		{with(func(list []Actuator) []Actuator { list[0].At.X, list[2].At = tenTo(600), list[1].At; return list }), api.ErrLarge},
		{with(func(list []Actuator) []Actuator { return make([]Actuator, 2) }), api.ErrForm},
		{at(0, "", tenTo(600)), api.ErrForm}, {at(0, tenTo(600), ""), api.ErrLarge},
	}
	for a, e := range badNumbers() {
		list = append(list, badMirror{at(0, a, "0"), e}, badMirror{at(1, "1", a), e}, badMirror{at(2, a, a), e})
	}
	return list
}

func badSizes() []badMirror {
	var list []badMirror
	for a, e := range badLimits() {
		for _, change := range []func(*Mirror){
			func(m *Mirror) { m.Reach, m.Stroke, m.Gap = a, "", "-1" },
			func(m *Mirror) { m.Stroke, m.Gap, m.Links = a, "", make(pairs, 16) },
			func(m *Mirror) { m.Gap, m.Links, m.Slaves = a, pairs{{1, 0}}, make(pairs, 17) },
			func(m *Mirror) { m.Reach, m.Gap = a, "x" },
		} {
			list = append(list, badMirror{changed(row(), change), e})
		}
	}
	return list
}

func badLinks() []badMirror {
	var list []badMirror
	for _, bad := range []struct {
		links pairs
		e     api.Errno
	}{
		{make(pairs, 16), api.ErrMany}, {pairs{{-1, 0}}, api.ErrUnknown}, {pairs{{0, -1}}, api.ErrUnknown}, {pairs{{0, 3}}, api.ErrUnknown}, {pairs{{3, 0}}, api.ErrUnknown},
		{pairs{{math.MinInt, 1}}, api.ErrUnknown}, {pairs{{0, math.MaxInt}}, api.ErrUnknown}, {pairs{{3, 3}}, api.ErrUnknown}, {pairs{{0, 1}, {1, 3}}, api.ErrUnknown},
		{pairs{{1, 0}}, api.ErrOrder}, {pairs{{1, 1}}, api.ErrOrder}, {pairs{{0, 1}, {1, 0}}, api.ErrOrder}, {pairs{{2, 1}, {0, 9}}, api.ErrOrder},
		{pairs{{0, 1}, {0, 1}}, api.ErrRule}, {pairs{{0, 1}, {1, 2}, {0, 2}}, api.ErrRule}, {pairs{{0, 2}, {1, 2}, {0, 1}}, api.ErrRule}, {pairs{{0, 1}, {0, 1}, {0, 9}}, api.ErrRule},
	} {
		m := changed(row(), func(m *Mirror) { m.Links, m.Slaves = bad.links, pairs{{9, 9}} })
		list = append(list, badMirror{m, bad.e})
	}
	long := changed(line(16), func(m *Mirror) { m.Links[14] = [2]int{0, 14} })
	tree := changed(line(8), func(m *Mirror) { m.Links = pairs{{5, 7}, {0, 3}, {3, 5}, {2, 7}, {1, 4}, {0, 2}} })
	deadRing := changed(dead(), func(m *Mirror) { m.Links = append(m.Links, [2]int{0, 2}) })
	return append(list, badMirror{long, api.ErrRule}, badMirror{tree, api.ErrRule}, badMirror{deadRing, api.ErrRule})
}

// badSlaves have the slaves of a mirror of five actuators, of which the
// actuator 2 is dead, and 0 and 1 are linked.
func badSlaves() []badMirror {
	var list []badMirror
	for _, bad := range []struct {
		slaves pairs
		e      api.Errno
	}{
		{make(pairs, 17), api.ErrMany}, {make(pairs, 16), api.ErrRule}, {pairs{{-1, 0}}, api.ErrUnknown}, {pairs{{3, -1}}, api.ErrUnknown}, {pairs{{5, 0}}, api.ErrUnknown}, {pairs{{3, 5}}, api.ErrUnknown},
		{pairs{{math.MinInt, 0}}, api.ErrUnknown}, {pairs{{3, math.MaxInt}}, api.ErrUnknown}, {pairs{{3, 0}, {3, 5}}, api.ErrUnknown},
		{pairs{{3, 0}, {3, 0}}, api.ErrTwice}, {pairs{{3, 0}, {3, 2}}, api.ErrTwice}, {pairs{{3, 0}, {3, 3}, {9, 9}}, api.ErrTwice},
		{pairs{{2, 0}}, api.ErrDead}, {pairs{{3, 2}}, api.ErrDead}, {pairs{{2, 2}}, api.ErrDead}, {pairs{{0, 2}}, api.ErrDead}, {pairs{{3, 2}, {9, 9}}, api.ErrDead}, {pairs{{3, 2}, {2, 0}}, api.ErrDead},
		{pairs{{3, 3}}, api.ErrRule}, {pairs{{3, 4}, {4, 0}}, api.ErrRule}, {pairs{{4, 0}, {3, 4}}, api.ErrRule}, {pairs{{3, 4}, {4, 3}}, api.ErrRule}, {pairs{{0, 3}}, api.ErrRule}, {pairs{{1, 4}}, api.ErrRule}, {pairs{{3, 4}, {4, 9}}, api.ErrRule},
	} {
		m := changed(mixed(), func(m *Mirror) { m.Links, m.Slaves = pairs{{0, 1}}, bad.slaves })
		list = append(list, badMirror{m, bad.e})
	}
	linkedToDead := changed(mixed(), func(m *Mirror) { m.Slaves = pairs{{1, 4}} })
	return append(list, badMirror{linkedToDead, api.ErrRule})
}

func badMirrors() []badMirror {
	list := append(badActuators(), badSizes()...)
	return append(append(list, badLinks()...), badSlaves()...)
}

func TestCheckMirror(t *testing.T) {
	for i, m := range goodMirrors() {
		if e := mirror.CheckMirror(m); e != api.OK {
			t.Errorf("good mirror %d: error %d", i, e)
		}
	}
	for _, bad := range badMirrors() {
		if e := mirror.CheckMirror(bad.m); e != bad.e {
			t.Errorf("CheckMirror of %v: got %d, want %d", bad.m, e, bad.e)
		}
	}
	most := changed(line(16), func(m *Mirror) { m.Links, m.Slaves = nil, nil })
	for i := range 15 {
		most.Slaves = append(most.Slaves, [2]int{i, 15})
	}
	same(t, "CheckMirror with 15 slaves", mirror.CheckMirror(most), api.OK)
	far := changed(row(), func(m *Mirror) { m.Actuators[0].At = place(nines(600), "-1/"+nines(600)) })
	same(t, "CheckMirror with long numbers", mirror.CheckMirror(far), api.OK)
}

// everyError returns the error of each function for a mirror, if all other
// arguments have errors, too.
func everyError(m Mirror) map[string]api.Errno {
	bad, far := make(numbers, 99), []api.Place{place("x", "x")}
	errors := map[string]api.Errno{"CheckMirror": mirror.CheckMirror(m), "CheckCommand": mirror.CheckCommand(m, bad), "CheckNearest": mirror.CheckNearest(m, bad, bad, Proof{bad, bad})}
	_, errors["Free"] = mirror.Free(m)
	_, errors["Expand"] = mirror.Expand(m, bad)
	_, errors["Poke"] = mirror.Poke(m, -1, "x")
	_, errors["Influence"] = mirror.Influence(m, 99, far[0])
	_, errors["Matrix"] = mirror.Matrix(m, far)
	_, errors["Surface"] = mirror.Surface(m, bad, far)
	_, errors["Clip"] = mirror.Clip(m, bad)
	_, _, errors["Nearest"] = mirror.Nearest(m, bad)
	_, errors["Far"] = mirror.Far(m, bad, bad)
	_, _, errors["Saturated"] = mirror.Saturated(m, bad)
	_, errors["Blend"] = mirror.Blend(m, bad, bad, "x")
	_, _, errors["Offload"] = mirror.Offload(m, bad)
	_, errors["Waffle"] = mirror.Waffle(m, "x")
	_, errors["Turned"] = mirror.Turned(m, math.MinInt)
	return errors
}

func TestErrorOfTheMirrorComesFirst(t *testing.T) {
	for _, bad := range badMirrors() {
		for name, e := range everyError(bad.m) {
			if e != bad.e {
				t.Errorf("%s with the mirror %v: got error %d, want %d", name, bad.m, e, bad.e)
			}
		}
		fails[numbers](t, "Expand", bad.e)(mirror.Expand(bad.m, nil))
		fails[numbers](t, "Poke", bad.e)(mirror.Poke(bad.m, 0, "1"))
		fails[[]int](t, "Free", bad.e)(mirror.Free(bad.m))
		same(t, "CheckCommand", mirror.CheckCommand(bad.m, nil), bad.e)
	}
}

// badLists are lists for the mirror mixed with the errors of numbers.
func badLists() map[api.Errno][]numbers {
	list := map[api.Errno][]numbers{api.ErrShape: {nil, {"0", "0", "0", "0"}, {"0", "0", "0", "0", "0", "0"}, {"x"}, make(numbers, 99)}}
	for a, e := range badNumbers() {
		list[e] = append(list[e], numbers{a, "0", "0", "0", "0"}, numbers{"0", "0", a, "0", "0"}, numbers{"0", "0", "0", a, "0"}, numbers{"9", "9", "9", "0", a})
	}
	list[api.ErrForm] = append(list[api.ErrForm], numbers{"0", "x", "0", tenTo(600), "0"})
	list[api.ErrLarge] = append(list[api.ErrLarge], numbers{"0", "0", tenTo(600), "x", "0"})
	return list
}

// badCommands are lists for the mirror mixed with the errors of a command.
func badCommands() map[api.Errno][]numbers {
	tiny := "1/" + nines(600)
	list := badLists()
	list[api.ErrDead] = []numbers{{"0", "0", "1", "0", "0"}, {"0", "0", tiny, "0", "0"}, {"9", "0", "-1", "0", "9"}, {"1", "1", "1", "0", "0"}}
	list[api.ErrRule] = []numbers{{"1", "0", "0", "0", "0"}, {"0", "0", "0", "-1", "0"}, {"1", "0", "0", "-1", "0"}, {"0", "0", "0", tiny, "0"}, {"9", "0", "0", "8", "0"}, {"3", "0", "0", "0", "9"}}
	list[api.ErrRange] = []numbers{{"3", "1", "0", "3", "0"}, {"0", "0", "0", "0", "17/8"}, {"0", "0", "0", "0", "-17/8"}, {"0", "9", "0", "0", "0"}, {"-3", "3", "0", "-3", "0"}, {"0", "0", "0", "0", nines(600)}}
	list[api.ErrConflict] = []numbers{{"2", "0", "0", "2", "0"}, {"0", "2", "0", "0", "0"}, {"-1", "1", "0", "-1", "0"}, {"1/8", "9/8", "0", "1/8", "0"}, {"-1/8", "-9/8", "0", "-1/8", "0"}, {"-9/8", "0", "0", "-9/8", "2"}}
	return list
}

func TestCheckCommand(t *testing.T) {
	for _, c := range []numbers{
		{"0", "0", "0", "0", "0"}, {"2", "1", "0", "2", "2"}, {"-2", "-1", "0", "-2", "-2"}, {"1/3", "-2/3", "0", "1/3", "1"},
	} {
		same(t, "CheckCommand", mirror.CheckCommand(mixed(), c), api.OK)
	}
	for e, lists := range badCommands() {
		for _, c := range lists {
			if got := mirror.CheckCommand(mixed(), c); got != e {
				t.Errorf("CheckCommand of %v: got %d, want %d", c, got, e)
			}
		}
	}
	same(t, "CheckCommand", mirror.CheckCommand(row(), numbers{"1", "0", "-1"}), api.OK)
	same(t, "CheckCommand", mirror.CheckCommand(row(), numbers{"2", "1", "-1/2"}), api.ErrConflict)
	same(t, "CheckCommand", mirror.CheckCommand(row(), numbers{"3", "2", "1"}), api.ErrRange)
	same(t, "CheckCommand", mirror.CheckCommand(dead(), numbers{"0", "0", "0"}), api.OK)
}

func TestFree(t *testing.T) {
	for _, one := range []struct {
		m    Mirror
		want []int
	}{
		{row(), []int{0, 1, 2}}, {mixed(), []int{0, 1, 4}}, {dead(), nil}, {line(1), []int{0}}, {square(), []int{0, 1, 2, 3}},
		{changed(row(), func(m *Mirror) { m.Links, m.Slaves = nil, pairs{{0, 1}, {2, 1}} }), []int{1}},
	} {
		same(t, "Free", sure[[]int](t)(mirror.Free(one.m)), one.want)
	}
}

func TestExpand(t *testing.T) {
	for _, one := range []struct {
		m    Mirror
		free numbers
		want numbers
	}{
		{row(), numbers{"1", "-9", "1/2"}, numbers{"1", "-9", "1/2"}}, {mixed(), numbers{"7", "-3", "1/4"}, numbers{"7", "-3", "0", "7", "1/4"}},
		{dead(), nil, numbers{"0", "0", "0"}}, {mixed(), numbers{nines(600), "0", "1/" + nines(600)}, numbers{nines(600), "0", "0", nines(600), "1/" + nines(600)}},
		{changed(row(), func(m *Mirror) { m.Links, m.Slaves = nil, pairs{{0, 1}, {2, 1}} }), numbers{"5"}, numbers{"5", "5", "5"}},
	} {
		same(t, "Expand", sure[numbers](t)(mirror.Expand(one.m, one.free)), one.want)
	}
	for _, free := range []numbers{nil, {"1", "2"}, {"1", "2", "3", "4"}, {"x"}, make(numbers, 5)} {
		fails[numbers](t, "Expand", api.ErrShape)(mirror.Expand(mixed(), free))
	}
	fails[numbers](t, "Expand", api.ErrShape)(mirror.Expand(dead(), numbers{"0"}))
	for a, e := range badNumbers() {
		fails[numbers](t, "Expand", e)(mirror.Expand(mixed(), numbers{a, "0", "0"}))
		fails[numbers](t, "Expand", e)(mirror.Expand(mixed(), numbers{"0", "0", a}))
	}
	fails[numbers](t, "Expand", api.ErrLarge)(mirror.Expand(mixed(), numbers{"0", tenTo(600), "x"}))
}

func TestPoke(t *testing.T) {
	slave := changed(row(), func(m *Mirror) { m.Links, m.Slaves = pairs{{0, 1}}, pairs{{2, 0}} })
	for _, one := range []struct {
		m        Mirror
		actuator int
		by       api.Rat
		want     numbers
	}{
		{slave, 0, "1", numbers{"1", "0", "1"}}, {slave, 1, "-5/2", numbers{"0", "-5/2", "0"}}, {mixed(), 4, "0", numbers{"0", "0", "0", "0", "0"}},
		{mixed(), 0, nines(600), numbers{nines(600), "0", "0", nines(600), "0"}}, {line(1), 0, "9", numbers{"9"}},
		{changed(row(), func(m *Mirror) { m.Links, m.Slaves = nil, pairs{{0, 1}, {2, 1}} }), 1, "3", numbers{"3", "3", "3"}},
	} {
		same(t, "Poke", sure[numbers](t)(mirror.Poke(one.m, one.actuator, one.by)), one.want)
	}
	for _, unknown := range []int{-1, 5, math.MinInt, math.MaxInt} {
		fails[numbers](t, "Poke", api.ErrUnknown)(mirror.Poke(mixed(), unknown, "x"))
	}
	for a, e := range badNumbers() {
		for actuator := range 5 {
			fails[numbers](t, "Poke", e)(mirror.Poke(mixed(), actuator, a))
		}
	}
	fails[numbers](t, "Poke", api.ErrDead)(mirror.Poke(mixed(), 2, "1"))
	fails[numbers](t, "Poke", api.ErrDead)(mirror.Poke(mixed(), 2, "0"))
	fails[numbers](t, "Poke", api.ErrRule)(mirror.Poke(mixed(), 3, "1"))
}

func TestExpandAndPokeAgree(t *testing.T) {
	r := rand.New(rand.NewSource(1))
	for range 200 {
		m := randomMirror(r, r.Intn(16)+1)
		free := sure[[]int](t)(mirror.Free(m))
		given := numbers{}
		for _, i := range free {
			if !isFree(m, i) {
				t.Errorf("the actuator %d of %v is not free", i, m)
			}
			given = append(given, "0")
		}
		for k, i := range free {
			given[k] = "-7/3"
			want := make([]api.Rat, len(m.Actuators))
			for j := range want {
				want[j] = "0"
			}
			want[i] = "-7/3"
			for _, slave := range m.Slaves {
				want[slave[0]] = want[slave[1]]
			}
			same(t, "Expand", sure[numbers](t)(mirror.Expand(m, given)), want)
			same(t, "Poke", sure[numbers](t)(mirror.Poke(m, i, "-7/3")), want)
			given[k] = "0"
		}
	}
}
