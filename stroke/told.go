package stroke

import (
	"slices"

	"roquet/api"
	"roquet/lawn"
	"roquet/turf"
)

// Met returns the balls that a ball meets.
func Met(g api.Ground, l []api.Knock, ball int) ([]int, api.Errno) {
	if e := CheckGround(g); e != api.OK {
		return nil, e
	}
	if len(l) > api.MaxKnocks {
		return nil, api.ErrMany
	}
	if !isBall(g, ball) {
		return nil, api.ErrRange
	}
	var met []int
	for _, k := range l {
		if !isKnock(g, k) {
			return nil, api.ErrArg
		}
		other, ok := partner(k, ball)
		if ok && !slices.Contains(met, other) {
			met = append(met, other)
		}
	}
	return met, api.OK
}

// isKnock reports whether a knock is of a kind that there is, and, if it is one of balls, of two balls of the ground. The numbers of other knocks do not matter here.
func isKnock(g api.Ground, k api.Knock) bool {
	if k.Kind == api.KnockBall {
		return isBall(g, k.Ball) && isBall(g, k.Other) && k.Ball != k.Other
	}
	return k.Kind == api.KnockPost || k.Kind == api.KnockOut
}

// partner returns the other ball of a knock of balls of which this ball is one.
func partner(k api.Knock, ball int) (int, bool) {
	switch {
	case k.Kind != api.KnockBall:
		return 0, false
	case k.Ball == ball:
		return k.Other, true
	case k.Other == ball:
		return k.Ball, true
	}
	return 0, false
}

// Runs reports whether a track runs a hoop.
func Runs(l api.Lawn, hoop int, forward bool, r int64, track []api.Point) (bool, api.Errno) {
	if e := lawn.Check(l); e != api.OK {
		return false, e
	}
	if !between(hoop, 0, len(l.Hoops)-1) || !between(r, 1, api.MaxBall) || len(track) == 0 {
		return false, api.ErrRange
	}
	if len(track) > api.MaxRun+1 {
		return false, api.ErrMany
	}
	for _, p := range track {
		if turf.Check(p) != api.OK {
			return false, api.ErrArg
		}
	}
	if !isThrough(l.Hoops[hoop], forward, r, track[len(track)-1]) {
		return false, api.OK
	}
	before := api.StandOut
	for _, p := range track {
		now, _ := lawn.Stand(l, hoop, forward, p, r)
		if now == api.StandRun && (before == api.StandIn || before == api.StandBegun) {
			return true, api.OK
		}
		before = now
	}
	return false, api.OK
}

// isThrough reports whether a ball at p is clear of the front of a hoop, be it between its wires or beside them.
func isThrough(h api.Hoop, forward bool, r int64, p api.Point) bool {
	u := p.Y - h.Y
	if h.Along {
		u = p.X - h.X
	}
	if !forward {
		u = -u
	}
	return u-r >= -h.Wire
}
