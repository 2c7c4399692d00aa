package stroke

import (
	"roquet/api"
	"roquet/turf"
)

// kinds has what a blow does, by its kind: how many thousandths of it the ball follows by when it meets another one at once, and for how many ticks the ball flies.
var kinds = [...]struct {
	follow int64
	flies  int
}{
	api.BlowStop:  {},
	api.BlowDrive: {follow: 150},
	api.BlowRoll:  {follow: 500},
	api.BlowPass:  {follow: 900},
	api.BlowJump:  {flies: api.JumpTicks},
}

// Strike returns the state after a blow.
func Strike(g api.Ground, s api.State, b api.Blow) (api.State, []api.Knock, api.Errno) {
	if e := CheckState(g, s); e != api.OK {
		return api.State{}, nil, e
	}
	if e := checkBlow(g, b); e != api.OK {
		return api.State{}, nil, e
	}
	if !allStill(s) || s.Out[b.Ball] {
		return api.State{}, nil, api.ErrState
	}
	return record(g, s, func(r *run) api.Errno {
		return attempt(func() { r.strike(b) })
	})
}

// strike gives the ball of a blow that is valid its momentum.
func (r *run) strike(b api.Blow) {
	kind := kinds[b.Kind]
	by, _ := turf.Towards(b.Aim, api.Point{}, b.Power)
	r.Who, r.Flies, r.Tick = b.Ball, kind.flies, 0
	r.Motions[b.Ball].M = by
	if r.flies(b.Ball) {
		return
	}
	r.settle(0)
	if r.told > 0 {
		r.push(b.Ball, api.Point{X: by.X * kind.follow / 1000, Y: by.Y * kind.follow / 1000})
	}
}
