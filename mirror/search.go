package mirror

import (
	"slices"

	"lenslet/api"
	"lenslet/lists"
	"lenslet/rational"
)

// everyCount is a multiple of each number of actuators, up to MaxActuators.
const everyCount = 720720

// search finds the nearest command to a target, and a proof. The links of the
// free actuators are trees: a search knows for each branch of a tree what
// loads it puts on the actuator that it grows from, and settles the numbers
// from the root on.
type search struct {
	device
	target  numbers
	endless rational.Ratio // above every load that targets cause
	command numbers
	proof   forces
	settled [api.MaxActuators]bool
}

// nearest returns the nearest command to a target, with forces that prove it.
// Each tree has as its root its first actuator from a certain one on.
func (d device) nearest(target numbers, root int) (numbers, forces) {
	unit := d.unit(target)
	s := d.newSearch(target, unit)
	for step := range d.actuators {
		first := (root + step) % len(d.actuators)
		if d.isFree(first) && !s.settled[first] {
			b := s.grow(first, first)
			s.settle(b, b.best, rational.Ratio{})
		}
	}
	return d.completed(s.command).times(unit), forces{s.proof.actuators.times(unit), s.proof.links.times(unit)}
}

// unit returns a number of which the numbers of a target, the limits and all
// means that a search makes of them are integer multiples: sums of integers
// need no common denominators.
func (d device) unit(target numbers) rational.Ratio {
	common := rational.Denominator(append(numbers{d.stroke, d.gap}, target...))
	return rational.Fraction(rational.Whole(1), common.Mul(rational.Whole(everyCount)))
}

// newSearch returns a search whose numbers are multiples of a unit.
func (d device) newSearch(target numbers, unit rational.Ratio) *search {
	in := func(x rational.Ratio) rational.Ratio { return x.Div(unit) }
	s := &search{device: d, target: lists.Mapped(target, in)}
	s.stroke, s.gap = in(d.stroke), in(d.gap)
	most := numbers{in(rational.One())}
	for _, x := range s.target {
		most = append(most, x.Abs(), s.stroke)
	}
	s.endless = lists.Sum(most, rational.Ratio.Add)
	s.command = make(numbers, len(d.actuators))
	s.proof = forces{make(numbers, len(d.actuators)), make(numbers, len(d.links))}
	return s
}

// grow returns the branch of an actuator, as seen from a neighbour (or from
// itself, for a root).
func (s *search) grow(actuator, from int) branch {
	b := branch{actuator: actuator, stop: actuator, target: s.target[actuator], bound: s.stroke, gap: s.gap, endless: s.endless}
	for other := range neighbours(s.links, actuator) {
		switch {
		case other == from:
		case !s.actuators[other].dead:
			b.next = append(b.next, s.grow(other, actuator))
		case s.gap.Cmp(b.bound) < 0:
			b.bound, b.stop = s.gap, other
		}
	}
	b.findBends()
	b.findBest()
	return b
}

// settle gives all actuators of a branch their numbers, the first one a
// certain number, and finds forces by which the branch has a certain load.
func (s *search) settle(b branch, x, load rational.Ratio) {
	s.command[b.actuator], s.settled[b.actuator] = x, true
	missing := load.Sub(b.target.Sub(x))
	for _, next := range b.next {
		missing = missing.Sub(next.passed(x).low)
	}
	for _, next := range b.next {
		possible := next.passed(x)
		more := within(missing, rational.Ratio{}, possible.high.Sub(possible.low))
		missing = missing.Sub(more)
		part := possible.low.Add(more)
		s.hold(next.actuator, b.actuator, part)
		s.settle(next, next.near(x), part)
	}
	s.hold(b.actuator, b.stop, missing.Neg())
}

// hold gives the limit that stops an actuator the force with which it takes a
// load from it: its stroke, or its link to another actuator.
func (s *search) hold(actuator, stop int, load rational.Ratio) {
	if stop == actuator {
		s.proof.actuators[actuator] = load
		return
	}
	link := [2]int{min(actuator, stop), max(actuator, stop)}
	if link[0] != actuator {
		load = load.Neg()
	}
	s.proof.links[slices.Index(s.links, link)] = load
}

// times returns the products of all numbers and one.
func (c numbers) times(factor rational.Ratio) numbers {
	return lists.Mapped(c, factor.Mul)
}
