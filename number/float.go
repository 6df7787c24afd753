package number

import (
	"math"

	"lenslet/api"
	"lenslet/lists"
	"lenslet/rational"
)

// Exact returns the exact value of a float32.
func Exact(f float32) (api.Rat, api.Errno) {
	if e := checkSample(f); e != api.OK {
		return "", e
	}
	return rational.Integer(rational.Steps(f)).Mul(rational.LeastFloat()).Write()
}

// Float returns the nearest float32 to a number.
func Float(a api.Rat) (float32, api.Errno) {
	x, e := rational.Read(a)
	if e != api.OK {
		return 0, e
	}
	return x.Float()
}

// CheckSamples returns the first error of samples, or OK.
func CheckSamples(l []float32) api.Errno {
	if len(l) > api.MaxSamples {
		return api.ErrMany
	}
	return lists.FirstBad(l, checkSample)
}

func checkSample(f float32) api.Errno {
	if math.IsNaN(float64(f)) || math.IsInf(float64(f), 0) {
		return api.ErrForm
	}
	return api.OK
}
