package game

import "roquet/api"

// board is a position that a move changes, with the laws of its code.
type board struct {
	api.Game
	laws api.Code
}

// played returns a legal position after a move that is allowed.
func played(g api.Game, m api.Move) api.Game {
	b := board{g, codes[g.Code]}
	switch m.Kind {
	case api.MoveChoose:
		b.choose(m.Ball)
	case api.MovePass:
		b.pass()
	case api.MoveBisque, api.MoveHalf:
		b.take(m.Kind)
	case api.MoveStroke:
		return struck(b, m.Events)
	}
	return b.Game
}

// choose lets a turn with a ball begin.
func (b *board) choose(ball int) {
	b.In[ball] = true
	b.Lift[b.Side] = false
	b.begin(ball)
}

// take lets a turn begin with the ball of the turn before, for halves of its side.
func (b *board) take(kind int) {
	b.Side = sideOf(b.Last)
	b.Halves[b.Side] -= halvesOf(kind)
	b.begin(b.Last)
	b.Half = kind == api.MoveHalf
}

// pass ends the turn, be it that it has to begin first.
func (b *board) pass() {
	switch b.Phase {
	case api.PhaseStart:
		b.count()
		fallthrough
	default:
		b.end()
	}
}

// begin lets a turn with a ball in play begin.
func (b *board) begin(ball int) {
	b.count()
	b.Game = atRest(b.Game)
	b.Ball, b.Began, b.Phase = ball, b.Points[ball], api.PhaseStroke
}

// count counts a turn that begins.
func (b *board) count() {
	if b.Turns == api.MaxTurns {
		// It has to stay odd or even as if it had become more.
		b.Turns -= 2
	}
	b.Turns++
}

// end ends the turn.
func (b *board) end() {
	if b.givesLift() {
		b.Lift[1-b.Side] = true
	}
	last := b.Ball
	if last != api.NoBall && !(b.laws.Bisques && b.In[last] && b.Turns >= api.FirstTurns) {
		last = api.NoBall
	}
	b.Game = atRest(b.Game)
	b.Side, b.Phase, b.Last = 1-b.Side, api.PhaseStart, last
}

// givesLift reports whether the striker's ball has run a hoop in this turn for which the other side gets a lift.
func (b *board) givesLift() bool {
	if b.Ball == api.NoBall {
		return false
	}
	for _, hoop := range b.laws.Lifts {
		// No turn begins before the hoop 0, which is none.
		if b.Began < hoop && hoop <= b.Points[b.Ball] {
			return true
		}
	}
	return false
}
