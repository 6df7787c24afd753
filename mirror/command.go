package mirror

import (
	"lenslet/api"
	"lenslet/lists"
	"lenslet/rational"
)

// CheckCommand returns the first error of a command, or OK.
func CheckCommand(m Mirror, c []api.Rat) api.Errno {
	d, em := readMirror(m)
	_, ec := d.readCommand(c)
	return lists.FirstError(em, ec)
}

// Expand returns the command with certain numbers of the free actuators.
func Expand(m Mirror, free []api.Rat) ([]api.Rat, api.Errno) {
	d, e := readMirror(m)
	if e != api.OK {
		return nil, e
	}
	indices := []int{}
	for i := range d.free() {
		indices = append(indices, i)
	}
	given, e := readExactly(len(indices), free)
	if e != api.OK {
		return nil, e
	}
	list := make(numbers, len(d.actuators))
	for k, i := range indices {
		list[i] = given[k]
	}
	return d.completed(list).write()
}

// Poke returns the command that moves one actuator, and its slaves.
func Poke(m Mirror, actuator int, by api.Rat) ([]api.Rat, api.Errno) {
	d, em := readMirror(m)
	x, eb := rational.Read(by)
	if e := lists.FirstError(em, d.checkActuator(actuator), eb); e != api.OK {
		return nil, e
	}
	switch {
	case d.actuators[actuator].dead:
		return nil, api.ErrDead
	case !d.isFree(actuator):
		return nil, api.ErrRule
	}
	c := make(numbers, len(d.actuators))
	for i := range c {
		if d.moves(actuator, i) {
			c[i] = x
		}
	}
	return c.write()
}

// Clip returns the command whose numbers are limited one by one.
func Clip(m Mirror, target []api.Rat) ([]api.Rat, api.Errno) {
	d, em := readMirror(m)
	t, et := d.readNumbers(target)
	if e := lists.FirstError(em, et); e != api.OK {
		return nil, e
	}
	clipped := lists.Mapped(t, func(x rational.Ratio) rational.Ratio {
		return within(x, d.stroke.Neg(), d.stroke)
	})
	return d.completed(clipped).write()
}

// Far returns the squared distance of two lists of numbers, over the free actuators.
func Far(m Mirror, a, b []api.Rat) (api.Rat, api.Errno) {
	d, em := readMirror(m)
	x, ea := d.readNumbers(a)
	y, eb := d.readNumbers(b)
	if e := lists.FirstError(em, ea, eb); e != api.OK {
		return "", e
	}
	var squares numbers
	for i := range d.free() {
		difference := x[i].Sub(y[i])
		squares = append(squares, difference.Mul(difference))
	}
	return lists.Sum(squares, rational.Ratio.Add).Write()
}

// Saturated returns the actuators and the links that are at a limit.
func Saturated(m Mirror, c []api.Rat) ([]int, []int, api.Errno) {
	d, em := readMirror(m)
	x, ec := d.readCommand(c)
	if e := lists.FirstError(em, ec); e != api.OK {
		return nil, nil, e
	}
	var actuators, links []int
	for i := range d.free() {
		if x[i].Abs().Cmp(d.stroke) == 0 {
			actuators = append(actuators, i)
		}
	}
	for k, link := range d.links {
		if x.across(link).Abs().Cmp(d.gap) == 0 {
			links = append(links, k)
		}
	}
	return actuators, links, api.OK
}

// Blend returns a command between two commands.
func Blend(m Mirror, a, b []api.Rat, part api.Rat) ([]api.Rat, api.Errno) {
	d, em := readMirror(m)
	x, ea := d.readCommand(a)
	y, eb := d.readCommand(b)
	share, ep := rational.ReadPart(part)
	if e := lists.FirstError(em, ea, eb, ep); e != api.OK {
		return nil, e
	}
	blended := make(numbers, len(x))
	for i := range x {
		blended[i] = x[i].Add(y[i].Sub(x[i]).Mul(share))
	}
	return blended.write()
}

// Waffle returns the command of alternating signs along the links.
func Waffle(m Mirror, by api.Rat) ([]api.Rat, api.Errno) {
	d, em := readMirror(m)
	x, eb := rational.Read(by)
	if e := lists.FirstError(em, eb); e != api.OK {
		return nil, e
	}
	list := make(numbers, len(d.actuators))
	seen := [api.MaxActuators]bool{}
	var spread func(actuator int, x rational.Ratio)
	spread = func(actuator int, x rational.Ratio) {
		list[actuator], seen[actuator] = x, true
		for other := range neighbours(d.links, actuator) {
			if !seen[other] {
				spread(other, x.Neg())
			}
		}
	}
	for i := range list {
		if !seen[i] {
			spread(i, x)
		}
	}
	return d.completed(list).write()
}
