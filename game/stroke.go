package game

import "roquet/api"

// stroke is a position that the events of a stroke change.
type stroke struct {
	board
	before    api.Game // the position before the stroke
	croqueted int      // the ball of which croquet is taken, or NoBall
	roquet    int      // the ball that is roqueted, or NoBall
	lost      bool     // a roquet was pegged out
	run       bool     // the striker's ball may go on without a roquet
	ends      bool     // the turn is to end
}

// struck returns the position after a stroke.
func struck(b board, l []api.Event) api.Game {
	s := &stroke{board: b, before: b.Game, croqueted: api.NoBall, roquet: api.NoBall}
	s.play(l)
	s.goOn()
	return s.Game
}

// play does what the events do, one after another.
func (s *stroke) play(l []api.Event) {
	does := [...]func(ball int){
		api.EventHit: s.hit, api.EventHoop: s.runHoop, api.EventPeg: s.hitPeg, api.EventOff: s.leave, api.EventFault: s.takeBack,
	}
	switch s.Phase {
	case api.PhaseCroquet:
		s.croqueted = s.Taken
		s.Dead[s.Taken] = true
		fallthrough
	default:
	events:
		for _, x := range l {
			for side := range s.Halves {
				// Behind the end of the game nothing counts but a fault, which takes the end back.
				if hasWon(s.Game, side) && x.Kind != api.EventFault {
					continue events
				}
			}
			does[x.Kind](x.Ball)
		}
	}
}

// hit lets the striker's ball hit a ball.
func (s *stroke) hit(ball int) {
	if s.roquet == api.NoBall && !s.lost && s.In[ball] && s.In[s.Ball] && !s.Dead[ball] {
		s.roquet = ball
	}
}

// runHoop lets a ball run its hoop.
func (s *stroke) runHoop(ball int) {
	if !s.In[ball] || s.isRover(ball) || s.isIdle(ball) {
		return
	}
	if ball != s.Ball {
		if s.laws.Peels {
			s.Points[ball]++
		}
		return
	}
	if s.roquet == api.NoBall {
		s.Points[ball]++
		s.Dead = [api.Balls]bool{}
		s.run = true
	}
}

// hitPeg lets a ball hit the peg.
func (s *stroke) hitPeg(ball int) {
	if !s.isRover(ball) || s.isIdle(ball) || s.waits(ball) {
		return
	}
	if ball == s.Ball && s.roquet == api.NoBall || ball != s.Ball && s.isRover(s.Ball) {
		s.pegOut(ball)
	}
}

// pegOut pegs a ball out.
func (s *stroke) pegOut(ball int) {
	s.Points[ball], s.In[ball], s.Dead[ball] = api.PeggedOut, false, false
	if ball == s.roquet {
		s.roquet, s.lost, s.run = api.NoBall, true, true
	}
}

// leave lets a ball leave the lawn. Only in a croquet stroke it matters here.
func (s *stroke) leave(ball int) {
	if !s.In[ball] || s.croqueted == api.NoBall {
		return
	}
	if ball == s.croqueted || ball == s.Ball && s.roquet == api.NoBall && !s.run {
		s.ends = true
	}
}

// takeBack undoes the stroke, as it was a fault.
func (s *stroke) takeBack(int) {
	s.Game, s.ends = s.before, true
}

// goOn ends the game, or the turn, or lets it go on.
func (s *stroke) goOn() {
	for side := range s.Halves {
		if hasWon(s.Game, side) {
			s.Game = atRest(s.Game)
			s.Phase, s.Winner = api.PhaseOver, side
			return
		}
	}
	switch {
	case s.ends || !s.In[s.Ball]:
		s.end()
	case s.roquet != api.NoBall:
		s.Phase, s.Taken = api.PhaseCroquet, s.roquet
	case s.run || s.croqueted != api.NoBall:
		s.Phase, s.Taken = api.PhaseContinue, api.NoBall
	default:
		s.end()
	}
}

// isRover reports whether a ball has run all hoops. One that is pegged out is none any more, as it has more points.
func (s *stroke) isRover(ball int) bool {
	return s.Points[ball] == s.laws.Hoops
}

// isIdle reports whether a ball scores nothing, as its side plays a half bisque.
func (s *stroke) isIdle(ball int) bool {
	return s.Half && sideOf(ball) == s.Side
}

// waits reports whether a ball may not be pegged out yet, as its partner has hoops to run.
func (s *stroke) waits(ball int) bool {
	partner := partnerOf(ball)
	return s.laws.Partner && !s.isRover(partner) && s.Points[partner] != api.PeggedOut
}
