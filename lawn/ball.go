package lawn

import (
	"slices"

	"roquet/api"
	"roquet/turf"
)

// checkBall returns the first error of a lawn, of points, of a radius, and of other balls, in this order.
func checkBall(l api.Lawn, r int64, others []api.Disc, points ...api.Point) api.Errno {
	if e := Check(l); e != api.OK {
		return e
	}
	for _, p := range points {
		if e := checkPoint(p); e != api.OK {
			return e
		}
	}
	return firstError(checkRadius(r), checkOthers(others))
}

// touches returns what tells whether a ball at p touches a disc.
func touches(p api.Point, r int64) func(api.Disc) bool {
	ball := api.Disc{At: p, R: r}
	return func(d api.Disc) bool { return overlap(ball, d) }
}

// meets returns what tells whether a ball touches a disc when it rolls straight from a to b.
func meets(a, b api.Point, r int64) func(api.Disc) bool {
	return func(d api.Disc) bool {
		// The middle of the ball must not come nearer than both radii.
		cuts, _ := turf.Cuts(a, b, api.Disc{At: d.At, R: d.R + r})
		return cuts
	}
}

// found returns the numbers of all posts and other balls that are in the way.
func found(l api.Lawn, others []api.Disc, inWay func(api.Disc) bool) []int {
	var numbers []int
	for k, d := range append(posts(l), others...) {
		if inWay(d) {
			numbers = append(numbers, k)
		}
	}
	return numbers
}

// Touched returns what a ball touches.
func Touched(l api.Lawn, p api.Point, r int64, others []api.Disc) ([]int, api.Errno) {
	if e := checkBall(l, r, others, p); e != api.OK {
		return nil, e
	}
	return found(l, others, touches(p, r)), api.OK
}

// InWay returns what a ball touches that rolls straight.
func InWay(l api.Lawn, a, b api.Point, r int64, others []api.Disc) ([]int, api.Errno) {
	if e := checkBall(l, r, others, a, b); e != api.OK {
		return nil, e
	}
	return found(l, others, meets(a, b, r)), api.OK
}

// May reports whether a ball may lie at a point.
func May(l api.Lawn, p api.Point, r int64, others []api.Disc) (bool, api.Errno) {
	if e := checkBall(l, r, others, p); e != api.OK {
		return false, e
	}
	inWay := touches(p, r)
	return on(l, p) && !slices.ContainsFunc(posts(l), inWay) && !slices.ContainsFunc(others, inWay), api.OK
}
