package contact

import (
	"roquet/api"
	"roquet/turf"
)

// Kick returns the kick of two balls.
func Kick(a api.Ball, s api.Motion, b api.Ball, t api.Motion, x api.Bounce) (api.Point, api.Errno) {
	one, other := roller{a, s}, roller{b, t}
	if e := checkAll(x, one, other); e != api.OK {
		return api.Point{}, e
	}
	return kickOf(one, other, x)
}

// kickOf returns the kick of two balls that are valid.
func kickOf(one, other roller, x api.Bounce) (api.Point, api.Errno) {
	urge := both(func(of axis) int64 { return other.Mass*of(one.M) - one.Mass*of(other.M) })
	m, e := meet(one.disc(), other.disc(), urge, one.Mass+other.Mass)
	if e != api.OK {
		return api.Point{}, e
	}
	return m.kick(x), api.OK
}

// Bounce lets two balls bounce off each other.
func Bounce(a api.Ball, s api.Motion, b api.Ball, t api.Motion, x api.Bounce) (api.Motion, api.Motion, api.Errno) {
	one, other := roller{a, s}, roller{b, t}
	if e := checkAll(x, one, other); e != api.OK {
		return api.Motion{}, api.Motion{}, e
	}
	one, other, e := bounced(one, other, x)
	return one.Motion, other.Motion, e
}

// bounced returns two balls that are valid after they bounced off each other.
func bounced(one, other roller, x api.Bounce) (roller, roller, api.Errno) {
	by, e := kickOf(one, other, x)
	if e != api.OK {
		return roller{}, roller{}, e
	}
	one.M, other.M = minus(one.M, by), plus(other.M, by)
	if !isMomentum(one.M) || !isMomentum(other.M) {
		return roller{}, roller{}, api.ErrOver
	}
	return one, other, api.OK
}

// Bump lets a ball bounce off a disc.
func Bump(a api.Ball, s api.Motion, d api.Disc, x api.Bounce) (api.Motion, api.Errno) {
	one := roller{a, s}
	if checkAll(x, one) != api.OK || turf.CheckDisc(d) != api.OK {
		return api.Motion{}, api.ErrArg
	}
	m, e := meet(one.disc(), d, one.M, 1)
	if e != api.OK {
		return api.Motion{}, e
	}
	one.M = minus(one.M, m.kick(x))
	if !isMomentum(one.M) {
		return api.Motion{}, api.ErrOver
	}
	return one.Motion, api.OK
}

// Work returns the work in two balls.
func Work(a api.Ball, s api.Motion, b api.Ball, t api.Motion) (int64, api.Errno) {
	if e := checkRollers(roller{a, s}, roller{b, t}); e != api.OK {
		return 0, e
	}
	return b.Mass*dot(s.M, s.M) + a.Mass*dot(t.M, t.M), api.OK
}
