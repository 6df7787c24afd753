package mirror

import (
	"lenslet/api"
	"lenslet/lists"
	"lenslet/rational"
)

// Influence returns the influence of an actuator at a place.
func Influence(m Mirror, actuator int, at api.Place) (api.Rat, api.Errno) {
	d, em := readMirror(m)
	place, ep := rational.ReadPoint(at)
	if e := lists.FirstError(em, d.checkActuator(actuator), ep); e != api.OK {
		return "", e
	}
	return d.influence(actuator, place).Write()
}

// Matrix returns the influences of the free actuators at places.
func Matrix(m Mirror, at []api.Place) ([][]api.Rat, api.Errno) {
	d, em := readMirror(m)
	places, ep := readPlaces(at)
	if e := lists.FirstError(em, ep); e != api.OK {
		return nil, e
	}
	return lists.Checked(places, func(place rational.Point) ([]api.Rat, api.Errno) {
		row := numbers{}
		for i := range d.free() {
			row = append(row, d.sharedInfluence(i, place))
		}
		return row.write()
	})
}

// Surface returns the surface of a command at places.
func Surface(m Mirror, c []api.Rat, at []api.Place) ([]api.Rat, api.Errno) {
	d, em := readMirror(m)
	x, ec := d.readCommand(c)
	places, ep := readPlaces(at)
	if e := lists.FirstError(em, ec, ep); e != api.OK {
		return nil, e
	}
	return lists.Checked(places, func(place rational.Point) (api.Rat, api.Errno) {
		var parts numbers
		for i := range x {
			if x[i].Sign() != 0 {
				parts = append(parts, x[i].Mul(d.influence(i, place)))
			}
		}
		return lists.Sum(parts, rational.Ratio.Add).Write()
	})
}

// readPlaces returns the points that places stand for, or their first error.
func readPlaces(places []api.Place) ([]rational.Point, api.Errno) {
	if len(places) > MaxPlaces {
		return nil, api.ErrMany
	}
	return lists.Checked(places, rational.ReadPoint)
}

// influence returns the influence of an actuator at a place.
func (d device) influence(actuator int, place rational.Point) rational.Ratio {
	distance := place.Sub(d.actuators[actuator].at).Square()
	if distance.Cmp(d.reach) >= 0 {
		return rational.Ratio{}
	}
	rest := d.reach.Sub(distance).Div(d.reach)
	return rest.Mul(rest)
}

// sharedInfluence returns the sum of the influences of a free actuator and its
// slaves at a place.
func (d device) sharedInfluence(free int, place rational.Point) rational.Ratio {
	var parts numbers
	for i := range d.actuators {
		if d.moves(free, i) {
			parts = append(parts, d.influence(i, place))
		}
	}
	return lists.Sum(parts, rational.Ratio.Add)
}
