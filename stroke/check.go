package stroke

import (
	"roquet/api"
	"roquet/contact"
	"roquet/lawn"
	"roquet/turf"
)

// CheckGround reports whether a ground is valid.
func CheckGround(g api.Ground) api.Errno {
	if e := lawn.Check(g.Lawn); e != api.OK {
		return e
	}
	if len(g.Balls) < 1 || len(g.Balls) > api.MaxBalls {
		return api.ErrMany
	}
	for _, b := range g.Balls {
		if contact.CheckBall(b) != api.OK {
			return api.ErrArg
		}
	}
	return contact.CheckBounce(g.Bounce)
}

// CheckState reports whether a state is valid.
func CheckState(g api.Ground, s api.State) api.Errno {
	if e := CheckGround(g); e != api.OK {
		return e
	}
	if len(s.Motions) != len(g.Balls) || len(s.Out) != len(g.Balls) {
		return api.ErrEqual
	}
	for i, m := range s.Motions {
		if contact.CheckMotion(g.Balls[i], m) != api.OK || !liesRight(g.Lawn, m, s.Out[i]) {
			return api.ErrArg
		}
	}
	if !isBall(g, s.Who) || !between(s.Flies, 0, api.JumpTicks) || !between(s.Tick, 0, api.MaxRun) {
		return api.ErrArg
	}
	return api.OK
}

// liesRight reports whether a ball that is out is still, or one that is not is on the lawn.
func liesRight(l api.Lawn, m api.Motion, out bool) bool {
	if out {
		return isStill(m)
	}
	return on(l, m.At)
}

// checkBlow reports whether a blow is valid.
func checkBlow(g api.Ground, b api.Blow) api.Errno {
	if !isBall(g, b.Ball) || turf.Check(b.Aim) != api.OK || b.Aim == (api.Point{}) ||
		!between(b.Power, 1, api.MaxPower) || !between(b.Kind, 0, len(kinds)-1) {
		return api.ErrArg
	}
	return api.OK
}

// checkTicks returns the error of ticks.
func checkTicks(ticks int) api.Errno {
	if !between(ticks, 0, api.MaxRun) {
		return api.ErrRange
	}
	return api.OK
}

// isBall reports whether there is a ball with this index on a ground.
func isBall(g api.Ground, ball int) bool {
	return between(ball, 0, len(g.Balls)-1)
}

// isMomentum reports whether m is possible as a momentum.
func isMomentum(m api.Point) bool {
	return between(m.X, -api.MaxMomentum, api.MaxMomentum) && between(m.Y, -api.MaxMomentum, api.MaxMomentum)
}

// on reports whether p is on a lawn. It is asked at each step, and lawn.On would check the whole lawn each time.
func on(l api.Lawn, p api.Point) bool {
	return between(p.X, 0, l.Wide) && between(p.Y, 0, l.Long)
}

// between reports whether n is from low to high.
func between[T int | int64](n, low, high T) bool {
	return low <= n && n <= high
}
