package mirror

import (
	"lenslet/api"
	"lenslet/lists"
	"lenslet/rational"
)

// Proof is the forces that hold a command within its limits: one for each actuator, and one for each link.
type Proof struct {
	Actuators []api.Rat
	Links     []api.Rat
}

// forces is a proof whose numbers are read.
type forces struct {
	actuators numbers
	links     numbers
}

// Nearest returns the command within all limits that is nearest to a target, with a proof.
func Nearest(m Mirror, target []api.Rat) ([]api.Rat, Proof, api.Errno) {
	d, em := readMirror(m)
	t, et := d.readNumbers(target)
	if e := lists.FirstError(em, et); e != api.OK {
		return nil, Proof{}, e
	}
	// Where several proofs are possible, the root of the search decides which
	// one is found: the numbers of another one may be short enough.
	for root := range d.actuators {
		c, f := d.nearest(t, root)
		command, e := c.write()
		if e != api.OK {
			return nil, Proof{}, e
		}
		if proof, e := f.write(); e == api.OK {
			return command, proof, api.OK
		}
	}
	return nil, Proof{}, api.ErrLarge
}

// CheckNearest returns OK if a proof proves that a command is the nearest one.
func CheckNearest(m Mirror, target, c []api.Rat, p Proof) api.Errno {
	d, em := readMirror(m)
	t, et := d.readNumbers(target)
	x, ec := d.readCommand(c)
	f, ep := d.readProof(p)
	if e := lists.FirstError(em, et, ec, ep); e != api.OK {
		return e
	}
	if !d.proves(f, t, x) {
		return api.ErrProof
	}
	return api.OK
}

// readProof returns the forces that a proof stands for, or its first error.
func (d device) readProof(p Proof) (forces, api.Errno) {
	if len(p.Actuators) != len(d.actuators) || len(p.Links) != len(d.links) {
		return forces{}, api.ErrShape
	}
	actuators, ea := rational.ReadAll(p.Actuators)
	links, el := rational.ReadAll(p.Links)
	if e := lists.FirstError(ea, el); e != api.OK {
		return forces{}, e
	}
	return forces{actuators, links}, api.OK
}

func (f forces) write() (Proof, api.Errno) {
	actuators, ea := f.actuators.write()
	links, el := f.links.write()
	if e := lists.FirstError(ea, el); e != api.OK {
		return Proof{}, e
	}
	return Proof{actuators, links}, api.OK
}

// proves reports whether forces prove that a command within the limits is the
// nearest one to a target.
func (d device) proves(f forces, target, c numbers) bool {
	balanced := func(i int) bool {
		return !d.isFree(i) || target[i].Sub(c[i]).Cmp(d.total(f, i)) == 0
	}
	held := func(i int) bool {
		return f.actuators[i].Sign() == 0 || d.isFree(i) && pushes(f.actuators[i], c[i], d.stroke)
	}
	for i := range d.actuators {
		if !balanced(i) || !held(i) {
			return false
		}
	}
	for k, link := range d.links {
		if !pushes(f.links[k], c.across(link), d.gap) {
			return false
		}
	}
	return true
}

// pushes reports whether a limit can have a force at a number: above 0 only
// at the limit, and below 0 only at its opposite.
func pushes(force, x, limit rational.Ratio) bool {
	switch force.Sign() {
	case 1:
		return x.Cmp(limit) == 0
	case -1:
		return x.Cmp(limit.Neg()) == 0
	}
	return true
}

// total returns the sum of all forces on an actuator.
func (d device) total(f forces, actuator int) rational.Ratio {
	parts := numbers{f.actuators[actuator]}
	for k, link := range d.links {
		switch actuator {
		case link[0]:
			parts = append(parts, f.links[k])
		case link[1]:
			parts = append(parts, f.links[k].Neg())
		}
	}
	return lists.Sum(parts, rational.Ratio.Add)
}
