package reconstruct

import (
	"lenslet/api"
	"lenslet/lists"
	"lenslet/rational"
)

// MaxPokes is the greatest number of pokes.
const MaxPokes = 256

// Poke is a record of a calibration.
type Poke struct {
	Actuator int
	Amount   api.Rat
	Slopes   []api.Rat
}

// Interaction returns the interaction matrix of pokes.
func Interaction(pokes []Poke, slopes, actuators int) ([][]api.Rat, api.Errno) {
	responses, e := readPokes(pokes, slopes, actuators)
	if e != api.OK {
		return nil, e
	}
	return rational.WriteMatrix(slopes, actuators, func(i, k int) rational.Ratio {
		return rational.Mean(responses[k].column(i))
	})
}

// Scatter returns the scatter of each actuator.
func Scatter(pokes []Poke, slopes, actuators int) ([]api.Rat, api.Errno) {
	responses, e := readPokes(pokes, slopes, actuators)
	if e != api.OK {
		return nil, e
	}
	scatters := make([]api.Rat, actuators)
	for k := range scatters {
		var ofSlopes []rational.Ratio
		for _, list := range responses[k].columns() {
			ofSlopes = append(ofSlopes, scatter(list))
		}
		scatters[k], e = lists.Sum(ofSlopes, rational.Ratio.Add).Write()
		if e != api.OK {
			return nil, e
		}
	}
	return scatters, api.OK
}

// scatter returns the sum of the squares of the differences of numbers and
// their mean. With the squares of the numbers themselves, the denominators on
// the way are those of the numbers.
func scatter(list []rational.Ratio) rational.Ratio {
	sum := lists.Sum(list, rational.Ratio.Add)
	return rational.Dot(list, list).Sub(sum.Mul(rational.Mean(list)))
}

// readPokes returns the responses of each actuator, or the first error.
func readPokes(pokes []Poke, slopes, actuators int) (map[int]matrix, api.Errno) {
	switch {
	case slopes < 1 || slopes > api.MaxSlopes || actuators < 1 || actuators > api.MaxActuators:
		return nil, api.ErrRange
	case len(pokes) > MaxPokes:
		return nil, api.ErrMany
	}
	responses := map[int]matrix{}
	for _, p := range pokes {
		response, e := p.response(size{slopes, actuators})
		if e != api.OK {
			return nil, e
		}
		responses[p.Actuator] = append(responses[p.Actuator], response)
	}
	for k := range actuators {
		if len(responses[k]) == 0 {
			return nil, api.ErrNone
		}
	}
	return responses, api.OK
}

// response returns the slopes of a poke divided by its amount, or its first
// error.
func (p Poke) response(s size) ([]rational.Ratio, api.Errno) {
	amount, ea := rational.Read(p.Amount)
	list, es := s.readColumn(p.Slopes)
	switch {
	case p.Actuator < 0 || p.Actuator >= s[1]:
		return nil, api.ErrUnknown
	case ea != api.OK:
		return nil, ea
	case amount.Sign() == 0:
		return nil, api.ErrZero
	case es != api.OK:
		return nil, es
	}
	return lists.Mapped(list, func(x rational.Ratio) rational.Ratio { return x.Div(amount) }), api.OK
}
