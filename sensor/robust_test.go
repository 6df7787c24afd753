package sensor_test

import (
	"math"
	"testing"

	"lenslet/api"
	"lenslet/sensor"
)

// P1: every function terminates and does not panic, for all arguments. The
// rules on memory: arguments are not changed, and results share no memory.

func oddFrames() []frame {
	list := []frame{nil, {}, {nil}, {{}, {}}, filled(twin(), 1), filled(greatest(), -1), make(frame, 64), {{1, 2}, {3}, nil}}
	for _, row := range badFrames() {
		list = append(list, row.frame)
	}
	return list
}

func TestOddFrames(t *testing.T) {
	for _, g := range append(badGeometries(), twin(), single(2), greatest()) {
		for _, list := range oddFrames() {
			c := sensor.Camera{Dark: list, Flat: list, Bad: [][2]int{{0, 0}, {math.MinInt, math.MaxInt}}}
			sensor.CheckFrame(g, list)
			sensor.CheckCamera(g, c)
			sensor.Calibrated(g, c, list)
			sensor.Calibrated(g, camera(twin(), 1, 1), list)
			sensor.Flux(g, list)
			sensor.Centroids(g, list)
			sensor.Averaged(g, []frame{list, nil})
			sensor.Correlated(g, list, list, math.MinInt)
			sensor.Correlated(g, list, filled(single(2), 1), 4)
			for _, a := range []api.Rat{"", "0", "-1", "2/4", "1/" + nines(600)} {
				sensor.Thresholded(g, list, a)
				sensor.Spots(g, []pair{{a, a}, {"0", a}}, a)
				sensor.Spots(g, make([]pair, 64), a)
				for _, lenslet := range []int{math.MinInt, -1, 0, 1, 64, math.MaxInt} {
					sensor.Uncertain(g, list, lenslet, a)
				}
			}
		}
	}
}

func TestOddFields(t *testing.T) {
	fields := []field{nil, {}, {nil}, {nil, nil}, {{}, {1, 2}}, make(field, 8), make(field, 100), square(2, complex64(1)), square(8, complex64(most))}
	for _, row := range badFields() {
		fields = append(fields, row.table)
	}
	for _, u := range fields {
		sensor.Transform(u)
		sensor.CheckTransform(square(8, complex64(1)), u)
		sensor.CheckTransform(square(4, complex64(1)), u)
		for _, v := range fields[:9] {
			sensor.CheckTransform(u, v)
		}
	}
	for _, p := range []phases{nil, {}, {nil}, {nil, nil}, {{1}, {1, 2}}, make(phases, 4), make(phases, 1000), square(4, math.MinInt), square(2, math.MaxInt)} {
		sensor.Field(p)
		sensor.Images(p)
	}
	for _, image := range []image{nil, {}, {nil, nil}, make(image, 8), square[api.Rat](2, ""), square[api.Rat](8, "0"), square[api.Rat](3, "1")} {
		sensor.Signals(images{image, image, image, image})
		sensor.Signals(images{square[api.Rat](2, "1"), image, nil, image})
	}
	sensor.Slopes(make([]pair, 1000), nil)
	sensor.Slopes(make([]pair, 3), make([]pair, 3))
}

func TestArgumentsAreNotChanged(t *testing.T) {
	g := twin()
	list, template := frame{{1, 3, 4, 0}, {0, 5, 2, 2}}, frame{{1, 0}, {0, 2}}
	c := sensor.Camera{Dark: filled(g, 1), Flat: filled(g, 2), Bad: [][2]int{{0, 0}, {2, 1}}}
	sure[frame](t)(sensor.Calibrated(g, c, list))
	sure[frame](t)(sensor.Averaged(g, []frame{list, c.Dark}))
	sure[[]api.Rat](t)(sensor.Flux(g, list))
	sure[[]pair](t)(sensor.Centroids(g, list))
	sure[[]pair](t)(sensor.Thresholded(g, list, "1"))
	sure[[][2]int](t)(sensor.Correlated(g, list, template, 2))
	sure[spans](t)(sensor.Uncertain(g, list, 1, "1"))
	same(t, "a frame", list, frame{{1, 3, 4, 0}, {0, 5, 2, 2}})
	same(t, "a template", template, frame{{1, 0}, {0, 2}})
	same(t, "a camera", c, sensor.Camera{Dark: filled(g, 1), Flat: filled(g, 2), Bad: [][2]int{{0, 0}, {2, 1}}})
	p, u := phases{{0, 1}, {2, 3}}, field{{1, 1i}, {-1, -1i}}
	sure[field](t)(sensor.Field(p))
	sure[images](t)(sensor.Images(p))
	v := sure[field](t)(sensor.Transform(u))
	same(t, "CheckTransform", sensor.CheckTransform(u, v), api.OK)
	same(t, "phases", p, phases{{0, 1}, {2, 3}})
	same(t, "a field", u, field{{1, 1i}, {-1, -1i}})
	places := []pair{{"0", "0"}, {"1/4", "1/2"}}
	sure[frame](t)(sensor.Spots(g, places, "1"))
	sure[[]api.Rat](t)(sensor.Slopes(places, places))
	same(t, "places", places, []pair{{"0", "0"}, {"1/4", "1/2"}})
	one := square[api.Rat](2, "1")
	sure[[][]pair](t)(sensor.Signals(images{one, one, one, one}))
	same(t, "an image", one, square[api.Rat](2, "1"))
}

func TestResultsShareNoMemory(t *testing.T) {
	g := twin()
	list, c := frame{{1, 3, 4, 0}, {0, 5, 2, 2}}, camera(twin(), 0, 1)
	for _, result := range []frame{sure[frame](t)(sensor.Calibrated(g, c, list)), sure[frame](t)(sensor.Averaged(g, []frame{list}))} {
		same(t, "a frame", result, list)
		clear(result[0])
		same(t, "the other row", result[1], list[1])
		same(t, "a frame whose result is cleared", list[0], []float32{1, 3, 4, 0})
	}
	u := square(2, complex64(1))
	v := sure[field](t)(sensor.Transform(u))
	clear(v[0])
	same(t, "the other row", v[1], []complex64{0, 0})
	same(t, "Transform", sure[field](t)(sensor.Transform(u)), field{{4, 0}, {0, 0}})
	shown := sure[images](t)(sensor.Images(square(4, 0)))
	clear(shown[1][0])
	for q, image := range sure[images](t)(sensor.Images(square(4, 0))) {
		for a, row := range shown[q] {
			if q != 1 || a != 0 {
				same(t, "a row of an image", row, image[a])
			}
		}
	}
	spots := sure[frame](t)(sensor.Spots(g, []pair{{"0", "0"}, {"0", "0"}}, "4"))
	clear(spots[0])
	same(t, "the other row of a frame of spots", spots[1], []float32{1, 1, 1, 1})
}
