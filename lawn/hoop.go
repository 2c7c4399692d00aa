package lawn

import "roquet/api"

// pair has one thing for each of two directions: for a hoop that is run along X, or along Y, or for one that is run forward, or backward.
type pair[T any] struct {
	first, second T
}

// of returns the first thing of the pair, or the second one.
func (p pair[T]) of(first bool) T {
	if first {
		return p.first
	}
	return p.second
}

// wires returns both wires of a hoop.
func wires(h api.Hoop) pair[api.Disc] {
	d := h.Gap/2 + h.Wire
	// The wires stand across the direction in which the hoop is run.
	by := pair[api.Point]{api.Point{Y: d}, api.Point{X: d}}.of(h.Along)
	return pair[api.Disc]{
		api.Disc{At: api.Point{X: h.X - by.X, Y: h.Y - by.Y}, R: h.Wire},
		api.Disc{At: api.Point{X: h.X + by.X, Y: h.Y + by.Y}, R: h.Wire},
	}
}

// checkHoop returns the error of the index of a hoop.
func checkHoop(l api.Lawn, hoop int) api.Errno {
	if hoop < 0 || hoop >= len(l.Hoops) {
		return api.ErrRange
	}
	return api.OK
}

// Passes reports whether a hoop passes a ball.
func Passes(l api.Lawn, hoop int, r int64) (bool, api.Errno) {
	if e := firstError(Check(l), checkHoop(l, hoop), checkRadius(r)); e != api.OK {
		return false, e
	}
	return l.Hoops[hoop].Gap >= 2*r, api.OK
}

// Stand returns how a ball stands to a hoop.
func Stand(l api.Lawn, hoop int, forward bool, p api.Point, r int64) (int, api.Errno) {
	if e := firstError(Check(l), checkHoop(l, hoop), checkPoint(p), checkRadius(r)); e != api.OK {
		return 0, e
	}
	h := l.Hoops[hoop]
	away := pair[int64]{p.X - h.X, p.Y - h.Y}
	u, v := away.of(h.Along), away.of(!h.Along)
	if max(v, -v) >= h.Gap/2 {
		return api.StandOut, api.OK
	}
	return stand(pair[int64]{u, -u}.of(forward), r, h.Wire), api.OK
}

// stand returns how far a ball has come that is u behind the middle of a hoop, and between its wires.
func stand(u, r, wire int64) int {
	switch {
	case u-r >= -wire:
		return api.StandRun
	case u+r > wire:
		return api.StandBegun
	case u+r > -wire:
		return api.StandIn
	}
	return api.StandOut
}
