package lawn

import (
	"iter"
	"slices"

	"roquet/api"
)

// yardLine is a yard line: the corner of it that is nearest to (0, 0), and the one opposite.
type yardLine struct {
	low, high api.Point
}

// lineOf returns the yard line of a lawn.
func lineOf(l api.Lawn) yardLine {
	return yardLine{
		low:  api.Point{X: l.Yard, Y: l.Yard},
		high: api.Point{X: l.Wide - l.Yard, Y: l.Long - l.Yard},
	}
}

// wide returns how long the line is along X.
func (y yardLine) wide() int64 { return y.high.X - y.low.X }

// long returns how long the line is along Y.
func (y yardLine) long() int64 { return y.high.Y - y.low.Y }

// half returns half the number of places on the line.
func (y yardLine) half() int64 { return y.wide() + y.long() }

// spot returns the point of the rectangle that is nearest to p.
func (y yardLine) spot(p api.Point) api.Point {
	return api.Point{
		X: min(max(p.X, y.low.X), y.high.X),
		Y: min(max(p.Y, y.low.Y), y.high.Y),
	}
}

// has reports whether p is on the line.
func (y yardLine) has(p api.Point) bool {
	side := p.X == y.low.X || p.X == y.high.X || p.Y == y.low.Y || p.Y == y.high.Y
	return side && y.spot(p) == p
}

// place returns the place n, which there has to be.
func (y yardLine) place(n int64) api.Point {
	w := y.wide()
	switch {
	case n < w:
		return api.Point{X: y.low.X + n, Y: y.low.Y}
	case n < y.half():
		return api.Point{X: y.high.X, Y: y.low.Y + n - w}
	case n < y.half()+w:
		return api.Point{X: y.high.X - (n - y.half()), Y: y.high.Y}
	}
	return api.Point{X: y.low.X, Y: y.high.Y - (n - y.half() - w)}
}

// number returns the number of the place of p, which has to be on the line. A corner counts to the side that begins there, so that the first place is 0.
func (y yardLine) number(p api.Point) int64 {
	w := y.wide()
	switch {
	case p.Y == y.low.Y && p.X < y.high.X:
		return p.X - y.low.X
	case p.X == y.high.X && p.Y < y.high.Y:
		return w + p.Y - y.low.Y
	case p.Y == y.high.Y && p.X > y.low.X:
		return y.half() + y.high.X - p.X
	}
	return y.half() + w + y.high.Y - p.Y
}

// from yields the places in the order in which they are looked at from the place n on: the farther ones later, and the one after n before the one before it.
func (y yardLine) from(n int64) iter.Seq[api.Point] {
	return func(yield func(api.Point) bool) {
		all := 2 * y.half()
		for t := range y.half() + 1 {
			if !yield(y.place((n+t)%all)) || !yield(y.place((n-t+all)%all)) {
				return
			}
		}
	}
}

// Spot returns the spot of a point, and whether the point is in the yard-line area.
func Spot(l api.Lawn, p api.Point) (api.Point, bool, api.Errno) {
	if e := firstError(Check(l), checkPoint(p)); e != api.OK {
		return api.Point{}, false, e
	}
	// Only a point of the rectangle is its own spot.
	spot := lineOf(l).spot(p)
	return spot, spot != p, api.OK
}

// Place returns the point of a place of the yard line.
func Place(l api.Lawn, n int64) (api.Point, api.Errno) {
	if e := Check(l); e != api.OK {
		return api.Point{}, e
	}
	y := lineOf(l)
	if n < 0 || n >= 2*y.half() {
		return api.Point{}, api.ErrRange
	}
	return y.place(n), api.OK
}

// Number returns the number of the place of a point.
func Number(l api.Lawn, p api.Point) (int64, api.Errno) {
	if e := firstError(Check(l), checkPoint(p)); e != api.OK {
		return 0, e
	}
	y := lineOf(l)
	if !y.has(p) {
		return 0, api.ErrNone
	}
	return y.number(p), api.OK
}

// Put returns where a ball is put on the yard line.
func Put(l api.Lawn, p api.Point, r int64, others []api.Disc) (api.Point, api.Errno) {
	if e := checkBall(l, r, others, p); e != api.OK {
		return api.Point{}, e
	}
	y := lineOf(l)
	spot := y.spot(p)
	if !y.has(spot) {
		return api.Point{}, api.ErrNone
	}
	for at := range y.from(y.number(spot)) {
		if !slices.ContainsFunc(others, touches(at, r)) {
			return at, api.OK
		}
	}
	return api.Point{}, api.ErrPlan
}

// Baulk returns the baulk of a point.
func Baulk(l api.Lawn, p api.Point) (int, api.Errno) {
	if e := firstError(Check(l), checkPoint(p)); e != api.OK {
		return 0, e
	}
	switch {
	case p.Y == l.Yard && between(p.X, l.Yard, l.Wide/2):
		return 1, api.OK
	case p.Y == l.Long-l.Yard && between(p.X, l.Wide-l.Wide/2, l.Wide-l.Yard):
		return 2, api.OK
	}
	return 0, api.OK
}
