package game

import "roquet/api"

// nobody is the winner of a game that is not over.
const nobody = -1

// isLegal reports whether a position is legal.
func isLegal(g api.Game) bool {
	c, e := Laws(g.Code)
	return e == api.OK && numbersFit(g, c) && ballsFit(g, c) && winnerFits(g) && phaseFits(g, c) && turnsFit(g) && sideFits(g, c)
}

// numbersFit reports whether the numbers that are not those of a ball are in their ranges.
func numbersFit(g api.Game, c api.Code) bool {
	return between(g.Phase, api.PhaseStart, api.PhaseOver) && between(g.Side, 0, 1) && between(g.Turns, 0, api.MaxTurns) &&
		halvesFit(g.Halves, c) && (g.Lift == [2]bool{} || c.Lifts != [2]int{})
}

// halvesFit reports whether the halves of both sides are possible for a code.
func halvesFit(halves [2]int, c api.Code) bool {
	most := 0
	if c.Bisques {
		most = api.MaxHalves
	}
	return between(halves[0], 0, most) && between(halves[1], 0, most)
}

// ballsFit reports whether each ball is as a ball in play, one that was not in play so far, or one that is pegged out may be.
func ballsFit(g api.Game, c api.Code) bool {
	for ball, points := range g.Points {
		fits := points == 0 || points == api.PeggedOut
		if g.In[ball] {
			fits = between(points, 0, c.Hoops)
		}
		if !fits || g.Dead[ball] && !g.In[ball] {
			return false
		}
	}
	return true
}

// winnerFits reports whether the game is over just if a side has won it, and only one side has.
func winnerFits(g api.Game) bool {
	for side := range g.Halves {
		if hasWon(g, side) {
			return g.Winner == side && g.Phase == api.PhaseOver && !hasWon(g, 1-side)
		}
	}
	return g.Winner == nobody && g.Phase != api.PhaseOver
}

// hasWon reports whether both balls of a side are pegged out.
func hasWon(g api.Game, side int) bool {
	return g.Points[side] == api.PeggedOut && g.Points[partnerOf(side)] == api.PeggedOut
}

// phaseFits reports whether a position has just what its phase asks for.
func phaseFits(g api.Game, c api.Code) bool {
	switch g.Phase {
	case api.PhaseStart:
		if !lastFits(g, c) {
			return false
		}
		// Without it, a turn that is to begin leaves as little as a game that is over.
		g.Last = api.NoBall
		fallthrough
	case api.PhaseOver:
		return g == atRest(g)
	case api.PhaseCroquet:
		if !isBall(g.Taken) || !g.In[g.Taken] || g.Dead[g.Taken] || g.Taken == g.Ball {
			return false
		}
		// Without it, it is a turn as in the other phases.
		g.Taken = api.NoBall
		fallthrough
	default:
		return turnFits(g, c)
	}
}

// lastFits reports whether the ball with which a bisque may be taken is possible between two turns.
func lastFits(g api.Game, c api.Code) bool {
	if g.Last == api.NoBall {
		return true
	}
	return c.Bisques && g.Turns >= api.FirstTurns && isBall(g.Last) && sideOf(g.Last) != g.Side && g.In[g.Last]
}

// turnFits reports whether a position is possible in a turn in which no croquet is to be taken.
func turnFits(g api.Game, c api.Code) bool {
	return isBall(g.Ball) && sideOf(g.Ball) == g.Side && g.In[g.Ball] && !g.Dead[g.Ball] &&
		between(g.Began, 0, g.Points[g.Ball]) && g.Last == api.NoBall && g.Taken == api.NoBall && (!g.Half || c.Bisques)
}

// turnsFit reports whether as many balls of each side were brought in as the turns ask for.
func turnsFit(g api.Game) bool {
	var brought [2]int
	for ball := range g.Points {
		if g.In[ball] || g.Points[ball] == api.PeggedOut {
			brought[sideOf(ball)]++
		}
	}
	turns := min(g.Turns, api.FirstTurns)
	return brought == [2]int{(turns + 1) / 2, turns / 2}
}

// sideFits reports whether the side whose turn it is may have it, where the sides take turns strictly.
func sideFits(g api.Game, c api.Code) bool {
	switch {
	case g.Phase == api.PhaseOver || c.Bisques && g.Turns >= api.FirstTurns:
		return true
	case g.Phase == api.PhaseStart:
		return g.Side == g.Turns%2
	default:
		// The turn that goes on counts already.
		return g.Side != g.Turns%2
	}
}

// atRest returns a position without all that belongs to a turn.
func atRest(g api.Game) api.Game {
	g.Ball, g.Taken, g.Last = api.NoBall, api.NoBall, api.NoBall
	g.Dead, g.Half, g.Began = [api.Balls]bool{}, false, 0
	return g
}
