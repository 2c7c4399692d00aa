package lawn

import (
	"roquet/api"
	"roquet/turf"
)

// Check reports whether a lawn is valid.
func Check(l api.Lawn) api.Errno {
	if len(l.Hoops) < 1 || len(l.Hoops) > api.MaxHoops || len(l.Cells) > api.MaxCells*api.MaxCells {
		return api.ErrMany
	}
	if !isName(l.Name) || !sidesFit(l) || !hoopsFit(l.Hoops) || !cellsFit(l) || !postsFit(l) {
		return api.ErrArg
	}
	return api.OK
}

// isName reports whether s is a name.
func isName(s string) bool {
	if len(s) < 1 || len(s) > api.MaxName {
		return false
	}
	for _, c := range []byte(s) {
		if (c < 'a' || c > 'z') && (c < '0' || c > '9') {
			return false
		}
	}
	return true
}

// sidesFit reports whether the sides and the yard line of a lawn are possible.
func sidesFit(l api.Lawn) bool {
	return between(l.Wide, api.MinSide, api.MaxPlace) && between(l.Long, api.MinSide, api.MaxPlace) &&
		between(l.Yard, 0, min(l.Wide, l.Long)/4)
}

// hoopsFit reports whether all hoops are valid.
func hoopsFit(hoops []api.Hoop) bool {
	for _, h := range hoops {
		if !between(h.X, 0, api.MaxPlace) || !between(h.Y, 0, api.MaxPlace) ||
			!between(h.Gap, 2, api.MaxGap) || h.Gap%2 != 0 || !between(h.Wire, 1, api.MaxWire) {
			return false
		}
	}
	return true
}

// cellsFit reports whether the cells of a lawn are possible, and just as many as there have to be.
func cellsFit(l api.Lawn) bool {
	if l.NX < 1 || l.NX > api.MaxCells || l.NY < 1 || l.NY > api.MaxCells || len(l.Cells) != l.NX*l.NY {
		return false
	}
	for _, c := range l.Cells {
		if !between(c.Drag, 0, api.MaxDrag) || !isSlope(c.DX) || !isSlope(c.DY) {
			return false
		}
	}
	return true
}

// isSlope reports whether n is possible as a slope of a cell.
func isSlope(n int64) bool {
	return between(n, -api.MaxSlope, api.MaxSlope)
}

// postsFit reports whether the posts of a lawn, whose sides and hoops are possible, lie on it and do not meet.
func postsFit(l api.Lawn) bool {
	if !between(l.Peg.R, 1, api.MaxWire) {
		return false
	}
	all := posts(l)
	for _, d := range all {
		if !between(d.At.X, d.R, l.Wide-d.R) || !between(d.At.Y, d.R, l.Long-d.R) {
			return false
		}
	}
	for k, d := range all {
		for _, other := range all[:k] {
			if overlap(d, other) {
				return false
			}
		}
	}
	return true
}

// overlap reports whether two valid discs are nearer to each other than their radii together.
func overlap(a, b api.Disc) bool {
	how, _ := turf.Touch(a, b)
	return how < 0
}

// checkPoint returns the error of a point.
func checkPoint(p api.Point) api.Errno {
	return turf.Check(p)
}

// checkRadius returns the error of the radius of a ball.
func checkRadius(r int64) api.Errno {
	if !between(r, 1, api.MaxBall) {
		return api.ErrRange
	}
	return api.OK
}

// checkOthers returns the error of other balls.
func checkOthers(others []api.Disc) api.Errno {
	if len(others) > api.MaxOthers {
		return api.ErrMany
	}
	for _, d := range others {
		if checkPoint(d.At) != api.OK || checkRadius(d.R) != api.OK {
			return api.ErrArg
		}
	}
	return api.OK
}

// firstError returns the first of these errors that is one.
func firstError(l ...api.Errno) api.Errno {
	for _, e := range l {
		if e != api.OK {
			return e
		}
	}
	return api.OK
}

// between reports whether n is from low to high.
func between(n, low, high int64) bool {
	return low <= n && n <= high
}
