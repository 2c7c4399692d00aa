package club

import (
	"cmp"
	"slices"

	"roquet/api"
	"roquet/lawn"
	"roquet/referee"
	"roquet/stroke"
	"roquet/turf"
)

const (
	factFault = "fault"       // the fact by which a stroke is a fault
	lastStep  = api.Steps + 1 // comes behind all steps of a tick
)

// strike is a doing of the kind DoStroke.
type strike struct {
	at    api.Point
	aim   api.Point
	power int64
	blow  int
	marks []api.Mark
}

func (a strike) isValid() bool {
	// Whose marks they are, and how long a mallet may stay, does not matter for this.
	_, e := referee.Facts(a.marks, 0, 0)
	return turf.Check(a.at) == api.OK && e == api.OK
}

func (a strike) do(c *court) (api.Done, error) {
	before, b := c.places, c.game.Ball
	switch c.game.Phase {
	case api.PhaseStart, api.PhaseOver:
		return api.Done{}, refusal{api.ErrState}
	case api.PhaseCroquet:
		if err := c.takeCroquet(a.at); err != nil {
			return api.Done{}, err
		}
	}
	r, err := c.hit(api.Blow{Ball: b, Aim: a.aim, Power: a.power, Kind: a.blow})
	if err != nil {
		return api.Done{}, err
	}
	fault, why, _ := referee.Judge(c.Book, a.marks, b, c.Limit, factFault)
	m := api.Move{Kind: api.MoveStroke, Events: c.events(r)}
	if fault {
		m.Events = append(m.Events, api.Event{Kind: api.EventFault})
		c.places = before
	} else {
		c.lie(r.last)
	}
	// That there are too many events is told by the game.
	return api.Done{Move: m, Ticks: r.last.Tick, Knocks: len(r.knocks), Fault: why}, c.play(m)
}

// takeCroquet puts the striker's ball beside the ball of which croquet is taken, towards a place.
func (c *court) takeCroquet(towards api.Point) error {
	b, taken := c.game.Ball, c.game.Taken
	at, e := turf.Towards(towards, c.places[taken], c.radius(b)+c.radius(taken))
	// As its place is rounded, it may touch the ball beside which it is put.
	if e != api.OK || !c.mayLie(b, at, taken) {
		return refusal{api.ErrRule}
	}
	c.places[b] = at
	return nil
}

// run is what came of a blow: the state after it, the one in which all balls are still again, and all knocks.
type run struct {
	first  api.State
	last   api.State
	knocks []api.Knock
}

// hit strikes a blow, and plays it until all balls are still.
func (c *court) hit(b api.Blow) (run, error) {
	first, struck, e := stroke.Strike(c.Ground, c.state(), b)
	if e != api.OK {
		return run{}, refusal{e}
	}
	last, played, e := stroke.Play(c.Ground, first, api.MaxRun)
	if e != api.OK {
		return run{}, refusal{e}
	}
	if still, _ := stroke.Still(c.Ground, last); !still {
		return run{}, refusal{api.ErrLate}
	}
	return run{first, last, slices.Concat(struck, played)}, nil
}

// moment is an event, and when it happened.
type moment struct {
	tick, step int
	event      api.Event
}

// events returns the events of a run, in order.
func (c *court) events(r run) []api.Event {
	moments := slices.Concat(c.knocks(r), c.hoops(r))
	putInOrder(moments, func(m moment) int { return m.tick }, func(m moment) int { return m.step })
	var l []api.Event
	for _, m := range moments {
		l = append(l, m.event)
	}
	return l
}

// putInOrder puts things in order by the first of some keys that differs. Equal ones stay as they are.
func putInOrder[T any](l []T, keys ...func(T) int) {
	slices.SortStableFunc(l, func(a, b T) int {
		for _, key := range keys {
			if order := cmp.Compare(key(a), key(b)); order != 0 {
				return order
			}
		}
		return 0
	})
}

// knocks returns the events that are knocks.
func (c *court) knocks(r run) []moment {
	var l []moment
	for _, k := range r.knocks {
		if x, ok := c.eventOf(k); ok {
			l = append(l, moment{k.Tick, k.Step, x})
		}
	}
	return l
}

// eventOf returns the event that a knock is, if it is one.
func (c *court) eventOf(k api.Knock) (api.Event, bool) {
	switch {
	case k.Kind == api.KnockOut:
		return api.Event{Kind: api.EventOff, Ball: k.Ball}, true
	case k.Kind == api.KnockPost && k.Other == c.peg():
		return api.Event{Kind: api.EventPeg, Ball: k.Ball}, true
	case k.Kind == api.KnockBall && k.Ball == c.game.Ball:
		return api.Event{Kind: api.EventHit, Ball: k.Other}, true
	case k.Kind == api.KnockBall && k.Other == c.game.Ball:
		return api.Event{Kind: api.EventHit, Ball: k.Ball}, true
	}
	return api.Event{}, false
}

// hoops returns the events of balls that run their hoops, by their numbers.
func (c *court) hoops(r run) []moment {
	var l []moment
	for ball := range c.places {
		gate, ok := c.gateOf(c.game, ball)
		if !ok || !c.isMoved(r, ball) {
			continue
		}
		if tick, ok := c.ran(r, ball, gate); ok {
			l = append(l, moment{tick, lastStep, api.Event{Kind: api.EventHoop, Ball: ball}})
		}
	}
	return l
}

// isMoved reports whether a ball may have moved in a run. To follow one that has not is needless, as it runs no hoop.
func (c *court) isMoved(r run, ball int) bool {
	return ball == c.game.Ball || slices.ContainsFunc(r.knocks, func(k api.Knock) bool {
		return k.Kind == api.KnockBall && (k.Ball == ball || k.Other == ball)
	})
}

// ran returns the number of the tick in which a ball runs its hoop, if it does in this run.
func (c *court) ran(r run, ball int, gate api.Gate) (int, bool) {
	track, _ := stroke.Track(c.Ground, r.first, ball, api.MaxRun)
	radius := c.radius(ball)
	if runs, _ := stroke.Runs(c.Ground.Lawn, gate.Hoop, gate.Forward, radius, track); !runs {
		return 0, false
	}
	before := api.StandOut
	for k, at := range track {
		now, _ := lawn.Stand(c.Ground.Lawn, gate.Hoop, gate.Forward, at, radius)
		if now == api.StandRun && (before == api.StandIn || before == api.StandBegun) {
			// The first place is the one before all ticks.
			return k - 1, true
		}
		before = now
	}
	return 0, false
}
