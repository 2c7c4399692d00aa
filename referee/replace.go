package referee

import (
	"roquet/api"
	"roquet/lawn"
	"roquet/turf"
)

// beyond is how much farther than both radii a ball is replaced, so that it does not touch although its place is rounded.
const beyond = 2

// Replace returns where a ball is replaced.
func Replace(l api.Lawn, p api.Point, r int64, others []api.Disc) (api.Point, api.Errno) {
	may, e := lawn.May(l, p, r, others)
	if e != api.OK {
		return api.Point{}, e
	}
	if may {
		return p, api.OK
	}
	for _, d := range touched(l, p, r, others) {
		at, e := beside(d, p, r)
		if e != api.OK {
			continue
		}
		if may, _ := lawn.May(l, at, r, others); may {
			return at, api.OK
		}
	}
	return api.Point{}, api.ErrPlan
}

// touched returns the other balls that a ball touches at p, in order; all of these have to be valid.
func touched(l api.Lawn, p api.Point, r int64, others []api.Disc) []api.Disc {
	posts, _ := lawn.Posts(l)
	numbers, _ := lawn.Touched(l, p, r, others)
	var balls []api.Disc
	for _, n := range numbers {
		if n >= len(posts) {
			balls = append(balls, others[n-len(posts)])
		}
	}
	return balls
}

// beside returns the place beside another ball, towards p; it need not be a valid one if the other ball lies at p.
func beside(d api.Disc, p api.Point, r int64) (api.Point, api.Errno) {
	away := d.R + r + beyond
	if p == d.At {
		return api.Point{X: p.X + away, Y: p.Y}, api.OK
	}
	return turf.Towards(p, d.At, away)
}
