package club_test

import (
	"slices"
	"testing"

	"roquet/api"
	"roquet/club"
	"roquet/game"
	"roquet/lawn"
	"roquet/referee"
	"roquet/stroke"
	"roquet/turf"
)

// model is a second version of a match, which follows the chapter sentence by sentence: strokes are played tick by tick, and all balls are followed on the way.
type model struct {
	s     api.Setup
	g     api.Game
	at    [4]api.Point
	moves []api.Move
}

// do does a doing, or returns an error and leaves the model as it is.
func (m *model) do(d api.Doing) (api.Done, api.Errno) {
	if len(m.moves) == 400 {
		return api.Done{}, api.ErrFull
	}
	if !modelValid(d) {
		return api.Done{}, api.ErrArg
	}
	next := *m
	var out [4]bool
	var x api.Done
	var e api.Errno
	switch d.Kind {
	case 1:
		x, e = next.choose(d)
	case 2:
		x, out, e = next.strike(d)
	case 3:
		x.Move = api.Move{Kind: api.MovePass}
		e = next.play(x.Move)
	default:
		x.Move = api.Move{Kind: api.MoveBisque, Ball: m.g.Last}
		if d.Half {
			x.Move.Kind = api.MoveHalf
		}
		e = next.play(x.Move)
	}
	if e == api.OK {
		e = next.yard(out)
	}
	if e != api.OK {
		return api.Done{}, e
	}
	*m = next
	return x, api.OK
}

// modelValid reports whether a doing is valid.
func modelValid(d api.Doing) bool {
	isPlace := func(p api.Point) bool { return max(p.X, p.Y) <= 1<<22 && min(p.X, p.Y) >= -1<<22 }
	switch d.Kind {
	case 1:
		return d.Ball >= 0 && d.Ball <= 3 && isPlace(d.At)
	case 2:
		for _, x := range d.Marks {
			if x.Kind < 0 || x.Kind > 5 || x.Ball < 0 || x.Ball > 3 || x.From < 0 || x.From > x.To || x.To > 1<<20 {
				return false
			}
		}
		return isPlace(d.At) && len(d.Marks) <= 64
	}
	return d.Kind == 3 || d.Kind == 4
}

func (m *model) play(x api.Move) api.Errno {
	g, e := game.Play(m.g, x)
	if e == api.OK {
		m.g, m.moves = g, append(slices.Clone(m.moves), x)
	}
	return e
}

// discs returns the balls for which keep is true, with their places.
func (m *model) discs(keep func(ball int) bool) []api.Disc {
	var l []api.Disc
	for ball := range 4 {
		if keep(ball) {
			l = append(l, api.Disc{At: m.at[ball], R: m.s.Ground.Balls[ball].Radius})
		}
	}
	return l
}

func (m *model) may(ball int, p api.Point, aside int) bool {
	others := m.discs(func(other int) bool { return m.g.In[other] && other != ball && other != aside })
	may, e := lawn.May(m.s.Ground.Lawn, p, m.s.Ground.Balls[ball].Radius, others)
	return may && e == api.OK
}

func (m *model) choose(d api.Doing) (api.Done, api.Errno) {
	wasIn := m.g.In[d.Ball]
	x := api.Move{Kind: api.MoveChoose, Ball: d.Ball, Lift: d.Lift}
	if e := m.play(x); e != api.OK {
		return api.Done{}, e
	}
	if d.Lift || !wasIn {
		l := m.s.Ground.Lawn
		one := d.At.Y == l.Yard && d.At.X >= l.Yard && d.At.X <= l.Wide/2
		two := d.At.Y == l.Long-l.Yard && d.At.X >= l.Wide-l.Wide/2 && d.At.X <= l.Wide-l.Yard
		if !one && !two || !m.may(d.Ball, d.At, d.Ball) {
			return api.Done{}, api.ErrRule
		}
		m.at[d.Ball] = d.At
	}
	return api.Done{Move: x}, api.OK
}

func (m *model) strike(d api.Doing) (x api.Done, out [4]bool, e api.Errno) {
	if m.g.Phase == api.PhaseStart || m.g.Phase == api.PhaseOver {
		return x, out, api.ErrState
	}
	b, before := m.g.Ball, m.at
	if m.g.Phase == api.PhaseCroquet {
		taken := m.g.Taken
		if d.At == m.at[taken] {
			return x, out, api.ErrRule
		}
		p, e := turf.Towards(d.At, m.at[taken], m.s.Ground.Balls[b].Radius+m.s.Ground.Balls[taken].Radius)
		if e != api.OK || !m.may(b, p, taken) {
			return x, out, api.ErrRule
		}
		m.at[b] = p
	}
	run := modelRun{model: m, was: m.g}
	if e := run.blow(api.Blow{Ball: b, Aim: d.Aim, Power: d.Power, Kind: d.Blow}); e != api.OK {
		return x, out, e
	}
	events := run.events()
	facts, _ := referee.Facts(d.Marks, b, m.s.Limit)
	why, none := referee.Why(m.s.Book, facts, "fault")
	if none == api.OK {
		events = append(events, api.Event{Kind: 5})
	}
	if len(events) > 24 {
		return x, out, api.ErrMany
	}
	x = api.Done{Move: api.Move{Kind: 2, Events: events}, Ticks: len(run.states) - 1, Knocks: run.count, Fault: why}
	if e := m.play(x.Move); e != api.OK {
		return api.Done{}, out, e
	}
	m.at = before
	if none != api.OK {
		last := run.states[len(run.states)-1]
		for ball := range 4 {
			if run.was.In[ball] {
				m.at[ball], out[ball] = last.Motions[ball].At, last.Out[ball]
			}
		}
	}
	return x, out, api.OK
}

// yard puts balls on the yard line behind a doing.
func (m *model) yard(out [4]bool) api.Errno {
	l := m.s.Ground.Lawn
	for ball := range 4 {
		if !m.g.In[ball] {
			m.at[ball] = api.Point{}
		}
	}
	for ball := range 4 {
		p := m.at[ball]
		area := p.X < l.Yard || p.X > l.Wide-l.Yard || p.Y < l.Yard || p.Y > l.Long-l.Yard
		if m.g.In[ball] && (out[ball] || area && ball != m.g.Ball) {
			others := m.discs(func(other int) bool { return m.g.In[other] && !out[other] && other != ball })
			q, e := lawn.Put(l, p, m.s.Ground.Balls[ball].Radius, others)
			if e != api.OK {
				return e
			}
			m.at[ball], out[ball] = q, false
		}
	}
	return api.OK
}

// modelRun is a blow, and what comes of it: the states after it and after each tick, and the knocks of the blow and of each tick.
type modelRun struct {
	*model
	was    api.Game
	states []api.State
	knocks [][]api.Knock
	count  int
	ran    [4]int // the index of the state in which a ball that runs its hoop has first run it; -1 if it does not
}

func (r *modelRun) blow(b api.Blow) api.Errno {
	s := api.State{Motions: make([]api.Motion, 4), Out: make([]bool, 4)}
	for ball := range 4 {
		s.Motions[ball].At, s.Out[ball] = r.at[ball], !r.was.In[ball]
	}
	s, k, e := stroke.Strike(r.s.Ground, s, b)
	if e != api.OK {
		return e
	}
	r.states, r.knocks, r.count = []api.State{s}, [][]api.Knock{k}, len(k)
	for played := 0; !modelStill(s); played += len(k) {
		if len(r.states) > 4000 {
			return api.ErrLate
		}
		if s, k, e = stroke.Tick(r.s.Ground, s); e != api.OK {
			return e
		}
		if played+len(k) > 4096 {
			return api.ErrMany
		}
		r.states, r.knocks, r.count = append(r.states, s), append(r.knocks, k), r.count+len(k)
	}
	for ball := range 4 {
		r.ran[ball] = r.ranAt(ball)
	}
	return api.OK
}

func modelStill(s api.State) bool {
	return !slices.ContainsFunc(s.Motions, func(x api.Motion) bool { return x.M != api.Point{} })
}

// events returns the events, tick by tick.
func (r *modelRun) events() []api.Event {
	var l []api.Event
	for i, knocks := range r.knocks {
		for _, k := range knocks {
			switch {
			case k.Kind == 0 && k.Ball == r.was.Ball:
				l = append(l, api.Event{Kind: 1, Ball: k.Other})
			case k.Kind == 0 && k.Other == r.was.Ball:
				l = append(l, api.Event{Kind: 1, Ball: k.Ball})
			case k.Kind == 1 && k.Other == 2*len(r.s.Ground.Lawn.Hoops):
				l = append(l, api.Event{Kind: 3, Ball: k.Ball})
			case k.Kind == 2:
				l = append(l, api.Event{Kind: 4, Ball: k.Ball})
			}
		}
		for ball := range 4 {
			if r.ran[ball] == i {
				l = append(l, api.Event{Kind: 2, Ball: ball})
			}
		}
	}
	return l
}

// ranAt finds out when a ball runs its hoop.
func (r *modelRun) ranAt(ball int) int {
	c, _ := game.Laws(r.s.Code)
	if !r.was.In[ball] || r.was.Points[ball] == c.Hoops {
		return -1
	}
	gate, l, size := r.s.Course[r.was.Points[ball]], r.s.Ground.Lawn, r.s.Ground.Balls[ball].Radius
	h := l.Hoops[gate.Hoop]
	last := r.states[len(r.states)-1].Motions[ball].At
	u := last.Y - h.Y
	if h.Along {
		u = last.X - h.X
	}
	if !gate.Forward {
		u = -u
	}
	if u-size < -h.Wire {
		return -1
	}
	for i := 1; i < len(r.states); i++ {
		now, _ := lawn.Stand(l, gate.Hoop, gate.Forward, r.states[i].Motions[ball].At, size)
		if now != 3 {
			continue
		}
		before, _ := lawn.Stand(l, gate.Hoop, gate.Forward, r.states[i-1].Motions[ball].At, size)
		if before == 1 || before == 2 {
			return i
		}
	}
	return -1
}

// agree does a doing in a match and in its model, and fails if they differ.
func agree(t *testing.T, m *club.Match, x *model, d api.Doing) (api.Done, api.Errno) {
	t.Helper()
	before := *x
	got, e := m.Do(d)
	want, known := x.do(d)
	if !sameDone(got, want) || e != known {
		t.Fatalf("Do(%v) in %v with %v: %v, error %d, want %v, error %d\n%v", d, before.g, before.at, got, e, want, known, x.s)
	}
	if s := (standing{x.g, x.at[:], x.moves}); !sameStates(stateOf(m), s) {
		t.Fatalf("Do(%v) in %v with %v, then: %v, want %v\n%v", d, before.g, before.at, stateOf(m), s, x.s)
	}
	return got, e
}
