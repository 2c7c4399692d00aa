package stroke_test

import (
	"roquet/api"
	"roquet/contact"
	"roquet/lawn"
	"roquet/turf"
)

// model does what the definitions of a blow and of a tick say, sentence by sentence, and looks at everything anew each time.
type model struct {
	g      api.Ground
	s      api.State
	knocks []api.Knock
}

// modelOf returns a model of a state.
func modelOf(g api.Ground, s api.State) *model {
	return &model{g: g, s: with(s, func(*api.State) {})}
}

// moves reports whether a ball is not still.
func (m *model) moves(i int) bool { return m.s.Motions[i].M.X != 0 || m.s.Motions[i].M.Y != 0 }

// inAir reports whether a ball flies.
func (m *model) inAir(i int) bool { return i == m.s.Who && m.s.Flies > 0 }

// tooMuch reports whether a number of a momentum is too great.
func tooMuch(p api.Point) bool { return max(p.X, -p.X, p.Y, -p.Y) > api.MaxMomentum }

// note adds a knock.
func (m *model) note(step, kind, ball, other int) {
	m.knocks = append(m.knocks, api.Knock{Tick: m.s.Tick, Step: step, Kind: kind, Ball: ball, Other: other})
}

// tick does a tick.
func (m *model) tick() api.Errno {
	if m.s.Tick == api.MaxRun {
		return api.ErrRange
	}
	if e := m.first(); e != api.OK {
		return e
	}
	for step := 1; step <= 16; step++ {
		for _, part := range []func(int) api.Errno{m.roll, m.leave, m.settle, m.bump} {
			if e := part(step); e != api.OK {
				return e
			}
		}
	}
	if m.s.Flies > 0 {
		m.s.Flies--
	}
	m.s.Tick++
	return api.OK
}

// first does the first part of a tick.
func (m *model) first() api.Errno {
	for i := range m.s.Motions {
		if m.s.Out[i] || !m.moves(i) || m.inAir(i) {
			continue
		}
		c, e := lawn.CellAt(m.g.Lawn, m.s.Motions[i].At)
		if e != api.OK {
			return e
		}
		p := plus(m.s.Motions[i].M, at(c.DX, c.DY))
		if tooMuch(p) {
			return api.ErrOver
		}
		if m.s.Motions[i].M, e = contact.Slow(p, c.Drag); e != api.OK {
			return e
		}
	}
	return api.OK
}

// roll lets the balls take a step.
func (m *model) roll(int) api.Errno {
	for i := range m.s.Motions {
		if m.s.Out[i] || !m.moves(i) {
			continue
		}
		next, e := contact.Step(m.g.Balls[i], m.s.Motions[i])
		if e != api.OK {
			return e
		}
		m.s.Motions[i] = next
	}
	return api.OK
}

// leave lets the balls leave that are not on the lawn any more.
func (m *model) leave(step int) api.Errno {
	for i := range m.s.Motions {
		if on, _ := lawn.On(m.g.Lawn, m.s.Motions[i].At); !on && !m.s.Out[i] {
			m.s.Out[i] = true
			m.s.Motions[i].M = at(0, 0)
			m.note(step, api.KnockOut, i, 0)
		}
	}
	return api.OK
}

// settle settles the balls that count, pair by pair.
func (m *model) settle(step int) api.Errno {
	for i := range m.s.Motions {
		for k := i + 1; k < len(m.s.Motions); k++ {
			if m.s.Out[i] || m.s.Out[k] || m.inAir(i) || m.inAir(k) {
				continue
			}
			one, other, e := contact.Bounce(m.g.Balls[i], m.s.Motions[i], m.g.Balls[k], m.s.Motions[k], m.g.Bounce)
			if e == api.ErrOver {
				return e
			}
			if e == api.OK {
				m.s.Motions[i], m.s.Motions[k] = one, other
				m.note(step, api.KnockBall, i, k)
			}
		}
	}
	return api.OK
}

// bump lets the balls that count bounce off the posts.
func (m *model) bump(step int) api.Errno {
	posts, _ := lawn.Posts(m.g.Lawn)
	for i := range m.s.Motions {
		if m.s.Out[i] || m.inAir(i) || !m.moves(i) {
			continue
		}
		for k, d := range posts {
			next, e := contact.Bump(m.g.Balls[i], m.s.Motions[i], d, m.g.Bounce)
			if e == api.ErrOver {
				return e
			}
			if e == api.OK {
				m.s.Motions[i] = next
				m.note(step, api.KnockPost, i, k)
			}
		}
	}
	return api.OK
}

// strike strikes a ball with a blow that is valid.
func (m *model) strike(b api.Blow) api.Errno {
	for i := range m.s.Motions {
		if m.moves(i) {
			return api.ErrState
		}
	}
	if m.s.Out[b.Ball] {
		return api.ErrState
	}
	by, e := turf.Towards(b.Aim, at(0, 0), b.Power)
	if e != api.OK {
		return e
	}
	m.s.Who, m.s.Flies, m.s.Tick, m.s.Motions[b.Ball].M = b.Ball, 0, 0, by
	if b.Kind == api.BlowJump {
		m.s.Flies = 8
		return api.OK
	}
	if e := m.settle(0); e != api.OK || len(m.knocks) == 0 {
		return e
	}
	follow := map[int]int64{api.BlowStop: 0, api.BlowDrive: 150, api.BlowRoll: 500, api.BlowPass: 900}[b.Kind]
	p := &m.s.Motions[b.Ball].M
	*p = plus(*p, at(by.X*follow/1000, by.Y*follow/1000))
	if tooMuch(*p) {
		return api.ErrOver
	}
	return api.OK
}
