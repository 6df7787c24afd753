package mirror

import (
	"iter"
	"slices"

	"lenslet/api"
	"lenslet/lists"
	"lenslet/rational"
)

// device is a mirror whose numbers are read.
type device struct {
	actuators []actuator
	masters   map[int]int // by their slaves
	reach     rational.Ratio
	stroke    rational.Ratio
	gap       rational.Ratio
	links     [][2]int
	slaves    [][2]int
}

// actuator is an actuator whose place is read.
type actuator struct {
	at   rational.Point
	dead bool
}

// numbers has a number for each actuator, or for each link.
type numbers []rational.Ratio

// neighbours visits the actuators that are linked to one.
func neighbours(links [][2]int, actuator int) iter.Seq[int] {
	return func(yield func(int) bool) {
		for _, link := range links {
			end := slices.Index(link[:], actuator)
			if end >= 0 && !yield(link[1-end]) {
				return
			}
		}
	}
}

// free visits the free actuators in ascending order.
func (d device) free() iter.Seq[int] {
	return func(yield func(int) bool) {
		for i := range d.actuators {
			if d.isFree(i) && !yield(i) {
				return
			}
		}
	}
}

func (d device) isFree(actuator int) bool {
	_, slaved := d.masters[actuator]
	return !slaved && !d.actuators[actuator].dead
}

// moves reports whether a free actuator moves another one: itself, or a slave.
func (d device) moves(free, other int) bool {
	return other == free || slices.Contains(d.slaves, [2]int{other, free})
}

// checkActuator returns the error of the index of an actuator.
func (d device) checkActuator(index int) api.Errno {
	if index < 0 || index >= len(d.actuators) {
		return api.ErrUnknown
	}
	return api.OK
}

// readNumbers returns the fractions of a list with a number for each
// actuator, or its first error.
func (d device) readNumbers(list []api.Rat) (numbers, api.Errno) {
	return readExactly(len(d.actuators), list)
}

// readCommand returns the fractions of a command within the limits, or its
// first error.
func (d device) readCommand(list []api.Rat) (numbers, api.Errno) {
	c, e := d.readNumbers(list)
	if e != api.OK {
		return nil, e
	}
	if e := lists.FirstError(d.checkDead(c), d.checkSlaved(c), d.checkStrokes(c), d.checkGaps(c)); e != api.OK {
		return nil, e
	}
	return c, api.OK
}

// readExactly returns the fractions of a certain number of numbers, or the
// first error.
func readExactly(count int, list []api.Rat) (numbers, api.Errno) {
	if len(list) != count {
		return nil, api.ErrShape
	}
	return rational.ReadAll(list)
}

// checkDead returns the error of a list that moves a dead actuator.
func (d device) checkDead(c numbers) api.Errno {
	for i, a := range d.actuators {
		if a.dead && c[i].Sign() != 0 {
			return api.ErrDead
		}
	}
	return api.OK
}

// checkSlaved returns the error of a list that moves a slave without its
// master.
func (d device) checkSlaved(c numbers) api.Errno {
	for _, slave := range d.slaves {
		if c[slave[0]].Cmp(c[slave[1]]) != 0 {
			return api.ErrRule
		}
	}
	return api.OK
}

func (d device) checkStrokes(c numbers) api.Errno {
	for i := range d.free() {
		if c[i].Abs().Cmp(d.stroke) > 0 {
			return api.ErrRange
		}
	}
	return api.OK
}

func (d device) checkGaps(c numbers) api.Errno {
	for _, link := range d.links {
		if c.across(link).Abs().Cmp(d.gap) > 0 {
			return api.ErrConflict
		}
	}
	return api.OK
}

// completed returns the command in which the free actuators have their
// numbers of a list.
func (d device) completed(list numbers) numbers {
	c := slices.Clone(list)
	for i, a := range d.actuators {
		if a.dead {
			c[i] = rational.Ratio{}
		}
		if master, ok := d.masters[i]; ok {
			c[i] = list[master]
		}
	}
	return c
}

// across returns how far the first actuator of a link is above the second one.
func (c numbers) across(link [2]int) rational.Ratio { return c[link[0]].Sub(c[link[1]]) }

// write returns the numbers of package api, or ErrLarge.
func (c numbers) write() ([]api.Rat, api.Errno) { return rational.WriteAll(c) }

// within returns the number from low to high that is nearest to a number.
func within(x, low, high rational.Ratio) rational.Ratio {
	return rational.Max(low, rational.Min(x, high))
}
