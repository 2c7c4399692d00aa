package contact

import (
	"roquet/api"
	"roquet/turf"
)

const (
	maxTicks = 1000    // ticks that are taken together
	maxLoss  = 1 << 25 // by which a momentum is slowed
)

// perUnit returns the momentum that moves a ball of this mass by 1 in a step.
func perUnit(mass int64) int64 { return 64 * mass }

// Step returns the motion after a step.
func Step(b api.Ball, s api.Motion) (api.Motion, api.Errno) {
	if e := CheckMotion(b, s); e != api.OK {
		return api.Motion{}, e
	}
	return roller{b, s}.after(1)
}

// Tick returns the motion after some ticks.
func Tick(b api.Ball, s api.Motion, ticks int) (api.Motion, api.Errno) {
	if e := CheckMotion(b, s); e != api.OK {
		return api.Motion{}, e
	}
	if ticks < 0 || ticks > maxTicks {
		return api.Motion{}, api.ErrRange
	}
	return roller{b, s}.after(api.Steps * int64(ticks))
}

// after returns the motion after some steps.
func (r roller) after(steps int64) (api.Motion, api.Errno) {
	// As each step keeps what is left of it, the parts of all steps are those of their sum; and as no step goes back, none of them leaves the valid places if the last one does not.
	part := func(of axis) api.Part {
		p, _ := turf.Divide(steps*of(r.M)+of(r.Rest), perUnit(r.Mass))
		return p
	}
	next := api.Motion{
		At:   both(func(of axis) int64 { return of(r.At) + part(of).Whole }),
		M:    r.M,
		Rest: both(func(of axis) int64 { return part(of).Rest }),
	}
	if turf.Check(next.At) != api.OK {
		return api.Motion{}, api.ErrOver
	}
	return next, api.OK
}

// Slow returns a momentum that is slowed.
func Slow(m api.Point, loss int64) (api.Point, api.Errno) {
	if !isMomentum(m) {
		return api.Point{}, api.ErrArg
	}
	if loss < 0 || loss > maxLoss {
		return api.Point{}, api.ErrRange
	}
	length, _ := turf.Root(64 * dot(m, m)) // 8 times
	left := length - 8*loss
	if left <= 0 {
		return api.Point{}, api.OK
	}
	return both(func(of axis) int64 { return of(m) * left / length }), api.OK
}
