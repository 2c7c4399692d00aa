package stroke

import "roquet/api"

// Tick returns the state after a tick.
func Tick(g api.Ground, s api.State) (api.State, []api.Knock, api.Errno) {
	if e := CheckState(g, s); e != api.OK {
		return api.State{}, nil, e
	}
	return record(g, s, func(r *run) api.Errno { return attempt(r.tick) })
}

// Play returns the state after some ticks.
func Play(g api.Ground, s api.State, ticks int) (api.State, []api.Knock, api.Errno) {
	if e := CheckState(g, s); e != api.OK {
		return api.State{}, nil, e
	}
	if e := checkTicks(ticks); e != api.OK {
		return api.State{}, nil, e
	}
	return record(g, s, func(r *run) api.Errno {
		for e := range r.ticks(ticks) {
			if e != api.OK {
				return e
			}
		}
		return api.OK
	})
}

// Track returns the track of a ball.
func Track(g api.Ground, s api.State, ball, ticks int) ([]api.Point, api.Errno) {
	if e := CheckState(g, s); e != api.OK {
		return nil, e
	}
	if !isBall(g, ball) {
		return nil, api.ErrRange
	}
	if e := checkTicks(ticks); e != api.OK {
		return nil, e
	}
	track := []api.Point{s.Motions[ball].At}
	r := begin(g, s, func(api.Knock) {})
	for e := range r.ticks(ticks) {
		if e != api.OK {
			return nil, e
		}
		track = append(track, r.Motions[ball].At)
	}
	return track, api.OK
}
