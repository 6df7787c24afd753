package mirror

import (
	"slices"
	"sort"

	"lenslet/rational"
)

// branch is an actuator of a tree, with all actuators that are behind it as
// seen from the root. Its load, at a number of its first actuator, is the
// force that remains for what holds this actuator there, if all others have
// the best numbers: what its target pulls with, and the loads that the
// branches behind it pass on, less the force of its own limit. (It is the
// negative derivative of half the least squared distance of the branch.)
// Where a number is at a limit, several loads are possible; a greater number
// never has a greater load.
type branch struct {
	actuator int
	stop     int // the actuator itself, or a dead one with a link that stops it earlier than its stroke
	target   rational.Ratio
	bound    rational.Ratio // where its stop is
	gap      rational.Ratio
	endless  rational.Ratio
	next     []branch
	bends    []rational.Ratio // between these numbers in ascending order the load is linear; the first and the last one are the ends of what is possible
	best     rational.Ratio   // where the load can be 0
}

// loads has all numbers from low to high.
type loads struct {
	low  rational.Ratio
	high rational.Ratio
}

// possible returns the loads that are possible at a number.
func (b branch) possible(x rational.Ratio) loads {
	own := b.target.Sub(x)
	l := loads{own, own}
	switch {
	case x.Cmp(b.bound) == 0:
		l.low = l.low.Sub(b.endless)
	case x.Cmp(b.bound.Neg()) == 0:
		l.high = l.high.Add(b.endless)
	}
	for _, next := range b.next {
		part := next.passed(x)
		l.low, l.high = l.low.Add(part.low), l.high.Add(part.high)
	}
	return l
}

// near returns the best number if the actuator before the branch has the
// number x.
func (b branch) near(x rational.Ratio) rational.Ratio {
	return within(b.best, x.Sub(b.gap), x.Add(b.gap))
}

// passed returns the loads that a branch can pass on to the actuator before
// it, at the number x of that one. A link passes on loads only if it is at
// its limit, and only those that do not ease it.
func (b branch) passed(x rational.Ratio) loads {
	none := rational.Ratio{}
	own := b.near(x)
	above := own.Sub(x)
	switch {
	case above.Cmp(b.gap) == 0:
		l := b.possible(own)
		return loads{rational.Max(l.low, none), l.high}
	case above.Cmp(b.gap.Neg()) == 0:
		l := b.possible(own)
		return loads{l.low, rational.Min(l.high, none)}
	}
	return loads{none, none}
}

// findBends finds the bends. Those of a branch behind it are passed on by the
// link: those below its best number when the link is at one limit, those above
// it when it is at the other one.
func (b *branch) findBends() {
	end := b.bound
	var bends []rational.Ratio
	for _, next := range b.next {
		end = rational.Min(end, next.bends[len(next.bends)-1].Add(b.gap))
		bends = append(bends, next.best.Sub(b.gap), next.best.Add(b.gap))
		for _, x := range next.bends {
			if x.Cmp(next.best) < 0 {
				bends = append(bends, x.Sub(b.gap))
			} else {
				bends = append(bends, x.Add(b.gap))
			}
		}
	}
	bends = slices.DeleteFunc(bends, func(x rational.Ratio) bool { return x.Abs().Cmp(end) >= 0 })
	b.bends = append(bends, end.Neg(), end)
	slices.SortFunc(b.bends, rational.Ratio.Cmp)
}

// findBest finds the number where the load can be 0. At the first bend with a
// possible load up to 0 it is this bend, or lies on the line that leads to it.
func (b *branch) findBest() {
	after := sort.Search(len(b.bends)-1, func(i int) bool { return b.possible(b.bends[i]).low.Sign() <= 0 })
	b.best = b.bends[after]
	rest := b.possible(b.best).high
	if after == 0 || rest.Sign() >= 0 {
		return
	}
	before := b.bends[after-1]
	fall := b.possible(before).low.Sub(rest)
	b.best = b.best.Add(rest.Mul(b.best.Sub(before)).Div(fall))
}
