package mistake

import "roquet/api"

// isPossible reports whether the wrong stroke is possible in a legal position.
func (w wrong) isPossible(g api.Game) bool {
	if !between(w.ball, 0, api.Balls-1) || !g.In[w.ball] {
		return false
	}
	switch w.kind {
	case api.WrongBall:
		return g.Ball != api.NoBall && w.ball == partnerOf(g.Ball) && w.ball != g.Taken
	case api.WrongTurn:
		return g.Phase == api.PhaseStart && sideOf(w.ball) != g.Side
	default:
		return (g.Phase == api.PhaseStroke || g.Phase == api.PhaseContinue) && w.ball != g.Ball
	}
}

// asIf returns the position from which the wrong stroke is played instead of one in which it is possible.
func (w wrong) asIf(g api.Game) api.Game {
	switch w.kind {
	case api.WrongBall:
		g.Ball, g.Began, g.Dead = w.ball, g.Points[w.ball], [api.Balls]bool{}
	case api.WrongTurn:
		g.Side, g.Ball, g.Phase = sideOf(w.ball), w.ball, api.PhaseContinue
		g.Began, g.Last = g.Points[w.ball], api.NoBall
	default:
		g.Phase, g.Taken, g.Dead[w.ball] = api.PhaseCroquet, w.ball, false
	}
	return g
}

// sideOf returns the side of a ball.
func sideOf(ball int) int {
	return ball % 2
}

// partnerOf returns the other ball of the side of a ball.
func partnerOf(ball int) int {
	return (ball + 2) % api.Balls
}
