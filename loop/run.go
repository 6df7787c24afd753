package loop

import (
	"lenslet/api"
	"lenslet/lists"
	"lenslet/rational"
)

// Run returns the residuals and the commands of a closed loop.
func Run(l Loop, disturbance []api.Rat) ([]api.Rat, []api.Rat, api.Errno) {
	c, el := readLoop(l)
	d, ed := readRecord(disturbance)
	if e := lists.FirstError(el, ed); e != api.OK {
		return nil, nil, e
	}
	var residuals, commands []api.Rat
	for f := range c.frames(d) {
		r, er := rational.Fraction(f.residual, f.unit).Write()
		u, eu := rational.Fraction(f.command, f.unit).Write()
		if e := lists.FirstError(er, eu); e != api.OK {
			return nil, nil, e
		}
		residuals, commands = append(residuals, r), append(commands, u)
	}
	return residuals, commands, api.OK
}

// Impulse returns the residuals of a closed loop after an impulse.
func Impulse(l Loop, n int) ([]api.Rat, api.Errno) {
	c, el := readLoop(l)
	if e := lists.FirstError(el, lists.CheckRange(n, 0, MaxRun)); e != api.OK {
		return nil, e
	}
	var residuals []api.Rat
	impulse := append([]rational.Ratio{rational.One()}, make([]rational.Ratio, MaxRun)...)
	for f := range c.frames(impulse[:n]) {
		r, e := rational.Fraction(f.residual, f.unit).Write()
		if e != api.OK {
			return nil, e
		}
		residuals = append(residuals, r)
	}
	return residuals, api.OK
}

// Best returns the gain with the least sum of squared residuals, and this sum.
func Best(l Loop, gains, record []api.Rat) (int, api.Rat, api.Errno) {
	_, el := readLoop(l)
	eg := checkGains(gains)
	d, ed := readRecord(record)
	if e := lists.FirstError(el, eg, ed); e != api.OK {
		return 0, "", e
	}
	costs := stableCosts(l, gains, d)
	best, least := -1, rational.Ratio{}
	for i, gain := range gains {
		cost, stable := costs[l.with(gain)]
		if stable && (best < 0 || cost.Cmp(least) < 0) {
			best, least = i, cost
		}
	}
	if best < 0 {
		return 0, "", api.ErrNone
	}
	cost, e := least.Write()
	if e != api.OK {
		return 0, "", e
	}
	return best, cost, api.OK
}

// Cost returns the sum of the squared residuals of a run.
func Cost(l Loop, record []api.Rat) (api.Rat, api.Errno) {
	c, el := readLoop(l)
	d, ed := readRecord(record)
	if e := lists.FirstError(el, ed); e != api.OK {
		return "", e
	}
	return c.cost(d).Write()
}

// readRecord returns the fractions of a record, or of a disturbance, or its
// first error.
func readRecord(list []api.Rat) ([]rational.Ratio, api.Errno) {
	if len(list) > MaxRun {
		return nil, api.ErrMany
	}
	return rational.ReadAll(list)
}

// checkGains returns the first error of gains.
func checkGains(gains []api.Rat) api.Errno {
	if e := lists.CheckCount(len(gains), MaxGains); e != api.OK {
		return e
	}
	return lists.FirstBad(gains, func(gain api.Rat) api.Errno {
		_, e := rational.ReadAmount(gain)
		return e
	})
}

// with returns the loop with another gain.
func (l Loop) with(gain api.Rat) Loop {
	l.Gain = gain
	return l
}

// stableCosts returns the costs of a loop for a record with those gains that
// make it stable.
func stableCosts(l Loop, gains []api.Rat, record []rational.Ratio) map[Loop]rational.Ratio {
	costs := map[Loop]rational.Ratio{}
	for _, gain := range gains {
		c, e := readStable(l.with(gain))
		if e == api.OK {
			costs[l.with(gain)] = c.cost(record)
		}
	}
	return costs
}

// cost returns the sum of the squared residuals for a record.
func (c control) cost(record []rational.Ratio) rational.Ratio {
	sum, unit := rational.Int{}, rational.Whole(1)
	for f := range c.frames(record) {
		growth := f.unit.Quo(unit)
		sum = sum.Mul(growth).Mul(growth).Add(f.residual.Mul(f.residual))
		unit = f.unit
	}
	return rational.Fraction(sum, unit.Mul(unit))
}
