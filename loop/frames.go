package loop

import (
	"iter"
	"slices"

	"lenslet/rational"
)

// frame has the residual and the command of a frame, times a unit.
type frame struct {
	residual rational.Int
	command  rational.Int
	unit     rational.Int
}

// frames visits the frames of a run. Their units grow from frame to frame by
// the common denominator of the loop: fractions in lowest terms would take far
// longer.
func (c control) frames(disturbance []rational.Ratio) iter.Seq[frame] {
	gain, leak, prediction, growth := c.inIntegers()
	counts, first := inIntegers(disturbance)
	return func(yield func(frame) bool) {
		power, command := rational.Whole(1), rational.Int{}
		residual := func(count rational.Int) rational.Int { return count.Mul(power).Sub(command) }
		recent := make([]rational.Int, c.delay+2) // residuals, the last one first
		for _, count := range counts {
			copy(recent[1:], recent)
			recent[0] = residual(count)
			if !yield(frame{recent[0], command, first.Mul(power)}) {
				return
			}
			late, before := recent[c.delay], recent[c.delay+1]
			change := gain.Mul(late).Add(prediction.Mul(late.Sub(before)))
			command, power = leak.Mul(command).Add(change), power.Mul(growth)
			for i := range recent {
				recent[i] = recent[i].Mul(growth)
			}
		}
	}
}

// inIntegers returns the gain, the leak and the prediction times their common
// denominator, and this.
func (c control) inIntegers() (gain, leak, prediction, unit rational.Int) {
	counts, unit := inIntegers([]rational.Ratio{c.gain, c.leak, c.prediction})
	return counts[0], counts[1], counts[2], unit
}

// inIntegers returns numbers times their common denominator, and this.
func inIntegers(list []rational.Ratio) ([]rational.Int, rational.Int) {
	// With 1 among them they are multiples of the reciprocal of an integer.
	counts, _ := rational.Integers(append(slices.Clone(list), rational.One()))
	return counts[:len(list)], counts[len(list)]
}
