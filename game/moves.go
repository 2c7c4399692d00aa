package game

import (
	"iter"

	"roquet/api"
)

// Moves returns the moves that are allowed.
func Moves(g api.Game) ([]api.Move, api.Errno) {
	if e := Check(g); e != api.OK {
		return nil, e
	}
	var l []api.Move
	for m := range moves(g) {
		l = append(l, m)
	}
	return l, api.OK
}

// Live returns the balls that may be roqueted.
func Live(g api.Game) ([]int, api.Errno) {
	if e := Check(g); e != api.OK {
		return nil, e
	}
	if g.Phase != api.PhaseStroke && g.Phase != api.PhaseContinue {
		return nil, api.OK
	}
	var l []int
	for ball := range g.Points {
		if ball != g.Ball && g.In[ball] && !g.Dead[ball] {
			l = append(l, ball)
		}
	}
	return l, api.OK
}

// moves yields the moves that are allowed in a legal position, in order.
func moves(g api.Game) iter.Seq[api.Move] {
	switch g.Phase {
	case api.PhaseStart:
		return starts(g)
	case api.PhaseOver:
		return func(func(api.Move) bool) {}
	}
	return func(yield func(api.Move) bool) {
		if yield(api.Move{Kind: api.MoveStroke}) {
			yield(api.Move{Kind: api.MovePass})
		}
	}
}

// starts yields the moves that are allowed when a turn is to begin, in order.
func starts(g api.Game) iter.Seq[api.Move] {
	return func(yield func(api.Move) bool) {
		for _, ball := range []int{g.Side, partnerOf(g.Side)} {
			if mayChoose(g, ball) && !yield(api.Move{Kind: api.MoveChoose, Ball: ball}) {
				return
			}
			if mayLift(g, ball) && !yield(api.Move{Kind: api.MoveChoose, Ball: ball, Lift: true}) {
				return
			}
		}
		if g.Turns < api.FirstTurns || !yield(api.Move{Kind: api.MovePass}) || g.Last == api.NoBall {
			return
		}
		left := g.Halves[sideOf(g.Last)]
		if left >= halvesOf(api.MoveBisque) && !yield(api.Move{Kind: api.MoveBisque, Ball: g.Last}) {
			return
		}
		if left >= halvesOf(api.MoveHalf) {
			yield(api.Move{Kind: api.MoveHalf, Ball: g.Last})
		}
	}
}

// mayChoose reports whether a ball of the side whose turn it is may be chosen.
func mayChoose(g api.Game, ball int) bool {
	if g.Turns < api.FirstTurns {
		return !g.In[ball] && g.Points[ball] != api.PeggedOut
	}
	return g.In[ball]
}

// mayLift reports whether a ball of the side whose turn it is may be chosen and lifted.
func mayLift(g api.Game, ball int) bool {
	return mayChoose(g, ball) && g.In[ball] && g.Lift[g.Side]
}

// halvesOf returns how many half bisques a bisque, or half of one, takes.
func halvesOf(kind int) int {
	if kind == api.MoveHalf {
		return 1
	}
	return 2
}

// checkMove returns the error of a move in a legal position.
func checkMove(g api.Game, m api.Move) api.Errno {
	switch {
	case !isAllowed(g, m):
		return api.ErrState
	case len(m.Events) > api.MaxEvents:
		return api.ErrMany
	case m.Kind != api.MoveStroke && len(m.Events) > 0 || !arePossible(g, m.Events):
		return api.ErrRule
	}
	return api.OK
}

// isAllowed reports whether a move is allowed, whatever its events are.
func isAllowed(g api.Game, m api.Move) bool {
	for x := range moves(g) {
		if m.Kind == x.Kind && m.Ball == x.Ball && m.Lift == x.Lift {
			return true
		}
	}
	return false
}

// arePossible reports whether events are possible in a stroke.
func arePossible(g api.Game, l []api.Event) bool {
	for i, x := range l {
		switch x.Kind {
		case api.EventFault:
			if i < len(l)-1 {
				return false
			}
		case api.EventHit:
			if x.Ball == g.Ball {
				return false
			}
			fallthrough
		case api.EventHoop, api.EventPeg, api.EventOff:
			if !isBall(x.Ball) || !g.In[x.Ball] {
				return false
			}
		default:
			return false
		}
	}
	return true
}
