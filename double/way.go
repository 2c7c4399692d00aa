package double

import (
	"roquet/api"
	"roquet/turf"
)

// Meet reports whether two passes meet.
func Meet(p, q api.Pass) (bool, api.Errno) {
	if e := checkEach(p, q); e != api.OK {
		return false, e
	}
	return meet(p, q), api.OK
}

// InWay returns which balls are in the way of a pass.
func InWay(p api.Pass, others []api.Disc) ([]int, api.Errno) {
	if e := Check(p); e != api.OK {
		return nil, e
	}
	if len(others) > api.MaxOthers {
		return nil, api.ErrMany
	}
	for _, d := range others {
		if e := turf.CheckDisc(d); e != api.OK {
			return nil, e
		}
	}
	var l []int
	for i, d := range others {
		if isNear(p, d.At, p.R+d.R) {
			l = append(l, i)
		}
	}
	return l, api.OK
}

// meetings returns the pairs of passes that meet, by their indexes, each of them both ways round.
func meetings(l []api.Pass) map[[2]int]bool {
	pairs := map[[2]int]bool{}
	for i, p := range l {
		for k, q := range l[:i] {
			if meet(p, q) {
				pairs[[2]int{i, k}] = true
				pairs[[2]int{k, i}] = true
			}
		}
	}
	return pairs
}

// meet reports whether two valid passes meet.
func meet(p, q api.Pass) bool {
	if p.Game == q.Game {
		return false
	}
	// Ways that do not cross are nearest to each other at an end of one of them.
	r := p.R + q.R
	return isNear(p, q.A, r) || isNear(p, q.B, r) || isNear(q, p.A, r) || isNear(q, p.B, r) || cross(p, q)
}

// isNear reports whether a point of the way of a pass is nearer to a place than r.
func isNear(p api.Pass, at api.Point, r int64) bool {
	how, _ := turf.Lies(p.A, p.B, at, r)
	return how < 0
}

// cross reports whether each of two ways has its ends on both sides of the other one.
func cross(p, q api.Pass) bool {
	return parts(p, q) && parts(q, p)
}

// parts reports whether the line through the way of p has the ends of that of q on its two sides, not on itself.
func parts(p, q api.Pass) bool {
	a, _ := turf.Side(p.A, p.B, q.A)
	b, _ := turf.Side(p.A, p.B, q.B)
	return a*b < 0
}
