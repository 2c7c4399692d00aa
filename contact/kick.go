package contact

import (
	"roquet/api"
	"roquet/turf"
)

// meeting is a contact of a ball with something that it approaches.
type meeting struct {
	way    api.Point // from the place of the ball to that of the other thing
	square int64     // of both places
	urge   api.Point
	weight int64 // by how much the urge is greater than a momentum: the mass of both balls, or 1
}

// meet returns the meeting of two discs: ErrNone if they are not in contact, ErrState if they do not approach.
func meet(a, b api.Disc, urge api.Point, weight int64) (meeting, api.Errno) {
	square, _ := turf.Square(a.At, b.At)
	reach := a.R + b.R
	if square > reach*reach || 16*16*square < 15*15*reach*reach {
		return meeting{}, api.ErrNone
	}
	way := minus(b.At, a.At)
	if dot(urge, way) <= 0 {
		return meeting{}, api.ErrState
	}
	return meeting{way, square, urge, weight}, api.OK
}

// kick returns what the ball loses in the meeting.
func (m meeting) kick(x api.Bounce) api.Point {
	// As they approach, the first product is above 0, and so Go's quotient is rounded down.
	h := dot(m.urge, m.way) / m.square
	k := cross(m.way, m.urge) / m.square
	along, across, divisor := (1000+x.Rebound)*h, x.Drag*k, 1000*m.weight
	by := kick{meeting: m, Point: api.Point{
		X: (along*m.way.X - across*m.way.Y) / divisor,
		Y: (along*m.way.Y + across*m.way.X) / divisor,
	}}
	repeat(by.tooGreat, by.halve)
	return by.Point
}

// kick is what is taken from the momentum of a ball in a meeting.
type kick struct {
	meeting
	api.Point
}

// tooGreat reports whether the kick would make energy.
func (k *kick) tooGreat() bool {
	return k.weight*dot(k.Point, k.Point) > 2*dot(k.urge, k.Point)
}

// halve halves both numbers of the kick.
func (k *kick) halve() {
	k.Point = both(func(of axis) int64 { return of(k.Point) / 2 })
}

// repeat calls do as long as while holds.
func repeat(while func() bool, do func()) {
	for while() {
		do()
	}
}
