package mirror_test

import (
	"math/big"
	"math/rand"
	"slices"
	"testing"

	"lenslet/api"
	"lenslet/mirror"
)

// P4.3: nearest commands.

// found is a nearest command with its proof.
type found struct {
	c numbers
	p Proof
}

func nearest(m Mirror, target numbers) (found, api.Errno) {
	c, p, e := mirror.Nearest(m, target)
	return found{c, p}, e
}

func TestClip(t *testing.T) {
	for _, one := range []struct {
		m      Mirror
		target numbers
		want   numbers
	}{
		{row(), numbers{"5", "0", "0"}, numbers{"2", "0", "0"}}, {row(), numbers{"-5", "2", "17/8"}, numbers{"-2", "2", "2"}}, {row(), numbers{"-2", "-3/2", "-" + nines(600)}, numbers{"-2", "-3/2", "-2"}},
		{mixed(), numbers{"5", "-1/" + nines(600), "7", "1", "-9"}, numbers{"2", "-1/" + nines(600), "0", "2", "-2"}}, {dead(), numbers{"1", "2", "3"}, numbers{"0", "0", "0"}},
	} {
		same(t, "Clip", sure[numbers](t)(mirror.Clip(one.m, one.target)), one.want)
	}
	long := changed(row(), func(m *Mirror) { m.Stroke = "1/" + nines(600) })
	same(t, "Clip", sure[numbers](t)(mirror.Clip(long, numbers{"1", "-1", "0"})), numbers{"1/" + nines(600), "-1/" + nines(600), "0"})
	for e, lists := range badLists() {
		for _, bad := range lists {
			fails[numbers](t, "Clip", e)(mirror.Clip(mixed(), bad))
		}
	}
}

func TestFar(t *testing.T) {
	for _, one := range []struct {
		m    Mirror
		a, b numbers
		want api.Rat
	}{
		{row(), numbers{"2", "0", "0"}, numbers{"3/2", "1/2", "0"}, "1/2"}, {row(), numbers{"1", "2", "3"}, numbers{"1", "2", "3"}, "0"}, {row(), numbers{"9", "-9", "0"}, numbers{"0", "0", "-1/3"}, "1459/9"},
		{mixed(), numbers{"1", "0", "5", "7", "1"}, numbers{"0", "0", "9", "-7", "3"}, "5"}, {dead(), numbers{"1", "2", "3"}, numbers{"0", "0", "0"}, "0"},
		{row(), numbers{nines(600), "0", "0"}, numbers{nines(600), "1", "0"}, "1"}, {mixed(), numbers{"0", "0", nines(600), nines(600), "0"}, numbers{"0", "0", "0", "0", "0"}, "0"},
	} {
		same(t, "Far", sure[api.Rat](t)(mirror.Far(one.m, one.a, one.b)), one.want)
	}
	good := numbers{"0", "0", "0", "0", "0"}
	for e, lists := range badLists() {
		for _, bad := range lists {
			fails[api.Rat](t, "Far", e)(mirror.Far(mixed(), bad, nil))
			fails[api.Rat](t, "Far", e)(mirror.Far(mixed(), good, bad))
			fails[api.Rat](t, "Far", e)(mirror.Far(mixed(), numbers{tenTo(599), "0", "0", "0", "0"}, bad))
		}
	}
	fails[api.Rat](t, "Far", api.ErrLarge)(mirror.Far(row(), numbers{nines(600), "0", "0"}, numbers{"0", "0", "0"}))
	fails[api.Rat](t, "Far", api.ErrLarge)(mirror.Far(row(), numbers{"0", "0", "1/" + nines(301)}, numbers{"0", "0", "0"}))
}

// totalOf returns the sum of the forces on an actuator, as the document says.
func totalOf(t *testing.T, m Mirror, p Proof, actuator int) *big.Rat {
	t.Helper()
	sum := asBig(t, p.Actuators[actuator])
	for k, link := range m.Links {
		if link[0] == actuator {
			sum = add(sum, asBig(t, p.Links[k]))
		}
		if link[1] == actuator {
			sum = sub(sum, asBig(t, p.Links[k]))
		}
	}
	return sum
}

// mayPush reports whether a limit may have a force at a number.
func mayPush(force, x, limit *big.Rat) bool {
	return force.Sign() == 0 || force.Sign() > 0 && x.Cmp(limit) == 0 || force.Sign() < 0 && x.Cmp(neg(limit)) == 0
}

// proves reports whether a command is within the limits, and a proof proves
// that it is the nearest one, as the document says.
func proves(t *testing.T, m Mirror, target, c numbers, p Proof) bool {
	t.Helper()
	if mirror.CheckCommand(m, c) != api.OK || len(p.Actuators) != len(m.Actuators) || len(p.Links) != len(m.Links) {
		return false
	}
	x := allBig(t, c)
	for i := range m.Actuators {
		force := asBig(t, p.Actuators[i])
		if isFree(m, i) && sub(asBig(t, target[i]), x[i]).Cmp(totalOf(t, m, p, i)) != 0 {
			return false
		}
		if force.Sign() != 0 && (!isFree(m, i) || !mayPush(force, x[i], asBig(t, m.Stroke))) {
			return false
		}
	}
	for k, link := range m.Links {
		if !mayPush(asBig(t, p.Links[k]), sub(x[link[0]], x[link[1]]), asBig(t, m.Gap)) {
			return false
		}
	}
	return true
}

func TestNearest(t *testing.T) {
	oneDead := changed(row(), func(m *Mirror) { m.Actuators[2].Dead = true })
	slaved := changed(row(), func(m *Mirror) { m.Links, m.Slaves = pairs{{0, 1}}, pairs{{2, 0}} })
	narrow := changed(oneDead, func(m *Mirror) { m.Gap, m.Stroke = "2", "2" })
	for _, one := range []struct {
		m      Mirror
		target numbers
		want   numbers
	}{
		{row(), numbers{"2", "0", "0"}, numbers{"3/2", "1/2", "0"}}, {row(), numbers{"5", "0", "0"}, numbers{"2", "1", "0"}}, {row(), numbers{"5", "0", "5"}, numbers{"2", "1", "2"}},
		{row(), numbers{"9", "0", "-9"}, numbers{"1", "0", "-1"}}, {row(), numbers{"3", "3", "3"}, numbers{"2", "2", "2"}}, {row(), numbers{"0", "3", "0"}, numbers{"2/3", "5/3", "2/3"}},
		{row(), numbers{"0", "4", "0"}, numbers{"1", "2", "1"}}, {row(), numbers{"0", "7", "0"}, numbers{"1", "2", "1"}}, {row(), numbers{"0", "-7", "2"}, numbers{"-1", "-2", "-1"}},
		{oneDead, numbers{"2", "1", "0"}, numbers{"2", "1", "0"}}, {oneDead, numbers{"2", "2", "2"}, numbers{"2", "1", "0"}}, {oneDead, numbers{"-9", "-9", nines(600)}, numbers{"-2", "-1", "0"}},
		{narrow, numbers{"-9", "9", "0"}, numbers{"-1", "1", "0"}}, {narrow, numbers{"9", "9", "0"}, numbers{"2", "2", "0"}}, {mixed(), numbers{"1", "5", "9", "7", "-3"}, numbers{"1", "1", "0", "1", "-2"}},
		{slaved, numbers{"3", "0", "-9"}, numbers{"2", "1", "2"}}, {slaved, numbers{"1", "-1", "8"}, numbers{"1/2", "-1/2", "1/2"}}, {dead(), numbers{"1", "2", "3"}, numbers{"0", "0", "0"}},
		{line(1), numbers{"-2/3"}, numbers{"-2/3"}}, {line(1), numbers{"-" + nines(600)}, numbers{"-2"}},
	} {
		got := sure[found](t)(nearest(one.m, one.target))
		same(t, "Nearest", got.c, one.want)
		if !proves(t, one.m, one.target, got.c, got.p) {
			t.Errorf("%v proves nothing for the target %v", got.p, one.target)
		}
		same(t, "CheckNearest", mirror.CheckNearest(one.m, one.target, got.c, got.p), api.OK)
	}
	// Here no other proof is possible.
	same(t, "Nearest", sure[found](t)(nearest(row(), numbers{"2", "0", "0"})).p, Proof{numbers{"0", "0", "0"}, numbers{"1/2", "0"}})
	same(t, "Nearest", sure[found](t)(nearest(row(), numbers{"5", "0", "0"})).p, Proof{numbers{"2", "0", "0"}, numbers{"1", "0"}})
}

// leastOf tries all sets of limits that a command may be at, and returns the
// nearest of the commands within the limits that are found so.
func leastOf(t *testing.T, m Mirror, target numbers) numbers {
	t.Helper()
	actuators, ways := len(m.Actuators), 1
	for range actuators + len(m.Links) {
		ways *= 3
	}
	var best numbers
	var least *big.Rat
	for way := range ways {
		states := make([]int, actuators+len(m.Links)) // -1, 0, or 1: at the lower limit, at none, or at the upper one
		for i := range states {
			states[i] = way%3 - 1
			way /= 3
		}
		c := atLimits(t, m, target, states)
		if c == nil || mirror.CheckCommand(m, c) != api.OK {
			continue
		}
		far := asBig(t, sure[api.Rat](t)(mirror.Far(m, c, target)))
		if least == nil || far.Cmp(least) < 0 {
			best, least = c, far
		}
	}
	return best
}

// atLimits returns the nearest command with some actuators and links at
// certain limits (perhaps beyond others), or nil if there is none, or if the
// actuators of a dead or slaved one are at limits.
func atLimits(t *testing.T, m Mirror, target numbers, states []int) numbers {
	t.Helper()
	c := make([]*big.Rat, len(m.Actuators))
	for i := range c {
		if c[i] != nil {
			continue
		}
		// The offsets of all actuators that are held by links at their limits.
		offsets := map[int]*big.Rat{i: new(big.Rat)}
		for range m.Links {
			for k, link := range m.Links {
				gap := mul(asBig(t, m.Gap), ratio(states[len(c)+k], 1))
				if states[len(c)+k] == 0 {
					continue
				}
				if x := offsets[link[0]]; x != nil {
					offsets[link[1]] = sub(x, gap)
				} else if y := offsets[link[1]]; y != nil {
					offsets[link[0]] = add(y, gap)
				}
			}
		}
		sum, count := new(big.Rat), 0
		var fixed *big.Rat
		for a, offset := range offsets {
			if isFree(m, a) {
				sum, count = add(sum, sub(asBig(t, target[a]), offset)), count+1
			}
			if m.Actuators[a].Dead {
				fixed = neg(offset)
			} else if states[a] != 0 {
				fixed = sub(mul(asBig(t, m.Stroke), ratio(states[a], 1)), offset)
			}
		}
		if fixed == nil && count > 0 {
			fixed = div(sum, ratio(count, 1))
		}
		for a, offset := range offsets {
			if fixed == nil {
				c[a] = new(big.Rat) // a slave
			} else {
				c[a] = add(fixed, offset)
			}
		}
	}
	for a := range c {
		if !isFree(m, a) && states[a] != 0 {
			return nil
		}
	}
	return allFromBig(completed(m, c))
}

// TestNearestOfAll compares nearest commands with those that a search of all
// sets of limits finds. Small integers are at several limits often.
func TestNearestOfAll(t *testing.T) {
	r := rand.New(rand.NewSource(5))
	for n := range 150 {
		m := randomMirror(r, r.Intn(3)+2)
		target := randomNumbers(r, len(m.Actuators))
		if n%2 == 0 {
			m.Stroke, m.Gap = "2", "1"
			for i := range target {
				target[i] = fromBig(ratio(r.Intn(13)-6, 1))
			}
		}
		got := sure[found](t)(nearest(m, target))
		same(t, "Nearest", got.c, leastOf(t, m, target))
		if !proves(t, m, target, got.c, got.p) {
			t.Errorf("%v proves nothing for the target %v of %v", got.p, target, m)
		}
	}
}

// TestNearestIsProved has many actuators, often at more limits than needed.
func TestNearestIsProved(t *testing.T) {
	r := rand.New(rand.NewSource(6))
	for n := range 1500 {
		m := randomMirror(r, r.Intn(16)+1)
		if n%3 == 0 {
			m = changed(line(r.Intn(16)+1), func(m *Mirror) { m.Stroke = "3" })
			for range r.Intn(3) {
				m.Actuators[r.Intn(len(m.Actuators))].Dead = true
			}
		}
		target := randomNumbers(r, len(m.Actuators))
		if n%2 == 0 {
			for i := range target {
				target[i] = fromBig(ratio(r.Intn(31)-15, 1))
			}
		}
		got := sure[found](t)(nearest(m, target))
		if !proves(t, m, target, got.c, got.p) {
			t.Errorf("%v proves nothing for %v with the target %v of %v", got.p, got.c, target, m)
		}
		same(t, "CheckNearest", mirror.CheckNearest(m, target, got.c, got.p), api.OK)
	}
}

func TestNearestErrors(t *testing.T) {
	for e, lists := range badLists() {
		for _, bad := range lists {
			fails[found](t, "Nearest", e)(nearest(mixed(), bad))
		}
	}
	// The numbers are means whose denominators have about 1200 digits.
	pair := changed(line(2), func(m *Mirror) { m.Gap = "1/2" })
	most := api.Rat(string(nines(599)) + "8")
	fails[found](t, "Nearest", api.ErrLarge)(nearest(pair, numbers{"1/" + nines(600), most + "/" + nines(600)}))
	// The command has few digits, but the force that holds it has 601.
	third := changed(line(1), func(m *Mirror) { m.Stroke = "1/3" })
	same(t, "Clip", sure[numbers](t)(mirror.Clip(third, numbers{nines(600)})), numbers{"1/3"})
	fails[found](t, "Nearest", api.ErrLarge)(nearest(third, numbers{nines(600)}))
	linked := changed(row(), func(m *Mirror) { m.Actuators[1].Dead, m.Gap = true, "1/3" })
	fails[found](t, "Nearest", api.ErrLarge)(nearest(linked, numbers{"0", "7", nines(600)}))
	got := sure[found](t)(nearest(line(1), numbers{nines(600)}))
	same(t, "Nearest", got.c, numbers{"2"})
	same(t, "the force", got.p.Actuators, numbers{nines(599) + "7"})
}

// TestNearestWithShortProof has targets for which one proof has too many
// digits, and another one has not.
func TestNearestWithShortProof(t *testing.T) {
	q := asBig(t, nines(599))
	above := fromBig(div(add(mul(q, ratio(5, 1)), ratio(1, 1)), q))
	for _, target := range []numbers{{above, "1/" + nines(600), "3"}, {"3", "1/" + nines(600), above}} {
		got := sure[found](t)(nearest(row(), target))
		same(t, "Nearest", got.c, numbers{"2", "1", "2"})
		if !proves(t, row(), target, got.c, got.p) {
			t.Errorf("%v proves nothing", got.p)
		}
	}
}

// TestNearestToLongTargets has numbers on the way with thousands of digits.
func TestNearestToLongTargets(t *testing.T) {
	m := changed(line(16), func(m *Mirror) { m.Gap = "1/" + nines(500) })
	target := numbers{}
	for i := range 16 {
		target = append(target, fromBig(div(ratio(1, 1), sub(asBig(t, nines(600)), ratio(i*i*i, 1)))))
	}
	got := sure[found](t)(nearest(m, target))
	same(t, "Nearest", got, found{target, Proof{slices.Repeat(numbers{"0"}, 16), slices.Repeat(numbers{"0"}, 15)}})
	for i := range target {
		target[i] = fromBig(mul(asBig(t, target[i]), mul(asBig(t, tenTo(599)), ratio(1-i%2*2, 1))))
	}
	fails[found](t, "Nearest", api.ErrLarge)(nearest(m, target))
	m.Gap = "1"
	for i := range target {
		target[i] = fromBig(sub(ratio(i%2*8, 1), asBig(t, "1/"+nines(100))))
	}
	got = sure[found](t)(nearest(m, target))
	if !proves(t, m, target, got.c, got.p) {
		t.Errorf("%v proves nothing", got.p)
	}
}

func TestCheckNearest(t *testing.T) {
	zeros := numbers{"0", "0", "0"}
	target, c := numbers{"5", "0", "5"}, numbers{"2", "1", "2"}
	twoDead := changed(line(3), func(m *Mirror) { m.Actuators[1].Dead, m.Actuators[2].Dead = true, true })
	for _, one := range []struct {
		m         Mirror
		target, c numbers
		p         Proof
		want      api.Errno
	}{
		// Different proofs prove the same.
		{row(), target, c, Proof{numbers{"2", "0", "3"}, numbers{"1", "0"}}, api.OK}, {row(), target, c, Proof{numbers{"3", "0", "2"}, numbers{"0", "-1"}}, api.OK}, {row(), target, c, Proof{numbers{"5/2", "0", "5/2"}, numbers{"1/2", "-1/2"}}, api.OK},
		{row(), target, c, Proof{numbers{"1", "0", "4"}, numbers{"2", "1"}}, api.ErrProof}, {row(), target, c, Proof{numbers{"2", "-1", "3"}, numbers{"1", "1"}}, api.ErrProof}, {row(), target, c, Proof{numbers{"2", "0", "2"}, numbers{"1", "0"}}, api.ErrProof},
		{row(), numbers{"5", "0", "0"}, numbers{"2", "1", "0"}, Proof{numbers{"2", "0", "0"}, numbers{"1", "0"}}, api.OK}, {row(), numbers{"5", "0", "0"}, numbers{"2", "1", "0"}, Proof{numbers{"3", "0", "0"}, numbers{"0", "0"}}, api.ErrProof},
		{row(), numbers{"5", "0", "0"}, numbers{"2", "1", "0"}, Proof{numbers{"3", "-1", "0"}, numbers{"0", "0"}}, api.ErrProof}, {row(), numbers{"5", "0", "0"}, numbers{"2", "1", "0"}, Proof{zeros, numbers{"3", "0"}}, api.ErrProof},
		{row(), zeros, numbers{"1", "0", "0"}, Proof{zeros, numbers{"-1", "0"}}, api.ErrProof}, {row(), zeros, numbers{"2", "2", "2"}, Proof{numbers{"-2", "-2", "-2"}, numbers{"0", "0"}}, api.ErrProof}, {row(), zeros, numbers{"0", "0", "1"}, Proof{zeros, numbers{"0", "1"}}, api.ErrProof},
		{row(), numbers{"-5", "0", "0"}, numbers{"-2", "-1", "0"}, Proof{numbers{"-2", "0", "0"}, numbers{"-1", "0"}}, api.OK}, {row(), zeros, zeros, Proof{zeros, numbers{"0", "0"}}, api.OK}, {row(), zeros, zeros, Proof{numbers{"1/" + nines(600), "0", "0"}, numbers{"0", "0"}}, api.ErrProof},
		// Dead and slaved actuators have no forces and need none; links to dead ones may have some.
		{mixed(), numbers{"1", "5", "9", "7", "-3"}, numbers{"1", "1", "0", "1", "-2"}, Proof{numbers{"0", "0", "0", "0", "-1"}, numbers{"0", "4"}}, api.OK},
		{mixed(), numbers{"1", "5", "9", "7", "-3"}, numbers{"1", "1", "0", "1", "-2"}, Proof{numbers{"0", "0", "9", "0", "-1"}, numbers{"0", "4"}}, api.ErrProof},
		{mixed(), numbers{"1", "5", "9", "7", "-3"}, numbers{"1", "1", "0", "1", "-2"}, Proof{numbers{"0", "0", "0", "6", "-1"}, numbers{"0", "4"}}, api.ErrProof},
		{mixed(), numbers{"3", "1", "0", "0", "0"}, numbers{"2", "1", "0", "2", "0"}, Proof{numbers{"1", "0", "0", "1", "0"}, numbers{"0", "0"}}, api.ErrProof},
		{twoDead, zeros, zeros, Proof{zeros, numbers{"0", "1"}}, api.ErrProof}, {twoDead, numbers{"7", "0", "0"}, numbers{"1", "0", "0"}, Proof{zeros, numbers{"6", "0"}}, api.OK}, {dead(), numbers{"1", "2", "3"}, zeros, Proof{zeros, numbers{"0", "0"}}, api.OK},
	} {
		if e := mirror.CheckNearest(one.m, one.target, one.c, one.p); e != one.want {
			t.Errorf("CheckNearest of %v for %v, %v: got %d, want %d", one.p, one.c, one.target, e, one.want)
		}
		if one.want == api.OK != proves(t, one.m, one.target, one.c, one.p) {
			t.Errorf("the test has a wrong expectation for %v", one.p)
		}
	}
}

func TestCheckNearestErrors(t *testing.T) {
	zeros := numbers{"0", "0", "0", "0", "0"}
	good := Proof{zeros, numbers{"0", "0"}}
	for e, lists := range badLists() {
		for _, bad := range lists {
			same(t, "CheckNearest", mirror.CheckNearest(mixed(), bad, nil, Proof{}), e)
		}
	}
	for e, lists := range badCommands() {
		for _, bad := range lists {
			same(t, "CheckNearest", mirror.CheckNearest(mixed(), numbers{"9", "9", "9", "9", "9"}, bad, Proof{}), e)
		}
	}
	check := func(p Proof, want api.Errno) {
		t.Helper()
		same(t, "CheckNearest", mirror.CheckNearest(mixed(), numbers{"1", "0", "0", "0", "0"}, zeros, p), want)
	}
	for _, p := range []Proof{{}, {nil, good.Links}, {good.Actuators, nil}, {numbers{"x"}, good.Links}, {zeros[:4], make(numbers, 2)}, {make(numbers, 5), numbers{"0"}}, {zeros, numbers{"x", "0", "0"}}, {make(numbers, 6), good.Links}} {
		check(p, api.ErrShape)
	}
	for a, e := range badNumbers() {
		check(Proof{numbers{"0", "0", "0", "0", a}, numbers{"x", "x"}}, e)
		check(Proof{numbers{a, "x", tenTo(600), "0", "0"}, good.Links}, e)
		check(Proof{zeros, numbers{"0", a}}, e)
		check(Proof{zeros, numbers{a, "x"}}, e)
	}
	check(Proof{zeros, numbers{tenTo(600), "x"}}, api.ErrLarge)
	check(good, api.ErrProof)
	same(t, "CheckNearest", mirror.CheckNearest(mixed(), zeros, zeros, good), api.OK)
}

// TestWrongProofs changes one force, or one number of the target, of proofs.
func TestWrongProofs(t *testing.T) {
	r := rand.New(rand.NewSource(7))
	for range 300 {
		m := randomMirror(r, r.Intn(8)+1)
		target := randomNumbers(r, len(m.Actuators))
		got := sure[found](t)(nearest(m, target))
		p := Proof{slices.Clone(got.p.Actuators), slices.Clone(got.p.Links)}
		switch i := r.Intn(len(target)); {
		case r.Intn(3) == 0:
			p.Actuators[i] = randomRat(r)
		case len(p.Links) > 0 && r.Intn(2) == 0:
			p.Links[r.Intn(len(p.Links))] = randomRat(r)
		default:
			target[i] = randomRat(r)
		}
		want := api.OK
		if !proves(t, m, target, got.c, p) {
			want = api.ErrProof
		}
		same(t, "CheckNearest", mirror.CheckNearest(m, target, got.c, p), want)
	}
}
