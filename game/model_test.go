package game_test

import "roquet/api"

// modelLaws is the chapter's table.
var modelLaws = [4]api.Code{
	{Hoops: 12, Lifts: [2]int{0, 0}, Peels: true, Bisques: true, Partner: false},
	{Hoops: 12, Lifts: [2]int{7, 10}, Peels: true, Bisques: false, Partner: false},
	{Hoops: 6, Lifts: [2]int{0, 0}, Peels: true, Bisques: true, Partner: false},
	{Hoops: 12, Lifts: [2]int{0, 0}, Peels: false, Bisques: false, Partner: true},
}

// within reports whether n is from low to high.
func within(n, low, high int) bool { return n >= low && n <= high }

// inPlay reports whether x is a ball in play, whatever x is.
func inPlay(g api.Game, x int) bool { return within(x, 0, 3) && g.In[x] }

// inTurn reports whether a position is in a turn.
func inTurn(g api.Game) bool { return within(g.Phase, 1, 3) }

// bothOut reports whether both balls of a side are pegged out.
func bothOut(g api.Game, side int) bool { return g.Points[side] == 13 && g.Points[side+2] == 13 }

// modelLegal reports whether a position is legal: each sentence of the definition, one after another.
func modelLegal(g api.Game) bool {
	if !within(g.Code, 0, 3) || !within(g.Phase, 0, 4) || !within(g.Side, 0, 1) {
		return false
	}
	c := modelLaws[g.Code]
	for _, holds := range []func(api.Game, api.Code) bool{
		legalNumbers, legalBalls, legalWinner, legalOutside, legalInside, legalTurns, legalSide,
	} {
		if !holds(g, c) {
			return false
		}
	}
	return true
}

func legalNumbers(g api.Game, c api.Code) bool {
	for _, n := range g.Points {
		if !within(n, 0, c.Hoops) && n != 13 {
			return false
		}
	}
	for side := range 2 {
		if !within(g.Halves[side], 0, 40) || g.Halves[side] > 0 && !c.Bisques {
			return false
		}
		if g.Lift[side] && c.Lifts[0] == 0 && c.Lifts[1] == 0 {
			return false
		}
	}
	return within(g.Turns, 0, 1073741824)
}

func legalBalls(g api.Game, _ api.Code) bool {
	for ball := range 4 {
		if !g.In[ball] && g.Points[ball] != 0 && g.Points[ball] != 13 {
			return false
		}
		if g.Points[ball] == 13 && g.In[ball] {
			return false
		}
		if g.Dead[ball] && !(g.In[ball] && inTurn(g) && g.Ball != ball) {
			return false
		}
	}
	return true
}

func legalWinner(g api.Game, _ api.Code) bool {
	if bothOut(g, 0) && bothOut(g, 1) {
		return false
	}
	if bothOut(g, 0) || bothOut(g, 1) {
		return within(g.Winner, 0, 1) && bothOut(g, g.Winner) && g.Phase == 4
	}
	return g.Winner == -1 && g.Phase != 4
}

func legalOutside(g api.Game, c api.Code) bool {
	if inTurn(g) {
		return true
	}
	if g.Ball != -1 || g.Taken != -1 || g.Dead != [4]bool{} || g.Half || g.Began != 0 {
		return false
	}
	if g.Last == -1 {
		return true
	}
	return g.Phase == 0 && c.Bisques && g.Turns >= 4 && inPlay(g, g.Last) && g.Last%2 != g.Side
}

func legalInside(g api.Game, c api.Code) bool {
	if !inTurn(g) {
		return true
	}
	if !inPlay(g, g.Ball) || g.Ball%2 != g.Side || g.Dead[g.Ball] || !within(g.Began, 0, g.Points[g.Ball]) || g.Last != -1 {
		return false
	}
	if g.Phase == 2 && !(inPlay(g, g.Taken) && g.Taken != g.Ball && !g.Dead[g.Taken]) {
		return false
	}
	if g.Phase != 2 && g.Taken != -1 {
		return false
	}
	return !g.Half || c.Bisques
}

func legalTurns(g api.Game, _ api.Code) bool {
	var count [2]int
	for ball := range 4 {
		if g.In[ball] || g.Points[ball] == 13 {
			count[ball%2]++
		}
	}
	if g.Turns >= 4 {
		return count[0]+count[1] == 4
	}
	return count[0]+count[1] == g.Turns && count[0]-count[1] == g.Turns%2
}

func legalSide(g api.Game, c api.Code) bool {
	if c.Bisques && g.Turns >= 4 {
		return true
	}
	if inTurn(g) {
		return g.Side == (g.Turns-1)%2
	}
	return g.Phase != 0 || g.Side == g.Turns%2
}

// modelAllowed reports whether a move is allowed in a legal position, whatever its events are.
func modelAllowed(g api.Game, kind, ball int, lift bool) bool {
	switch kind {
	case api.MoveChoose:
		if g.Phase != 0 || !within(ball, 0, 3) || ball%2 != g.Side {
			return false
		}
		if lift && !(g.Lift[g.Side] && g.In[ball]) {
			return false
		}
		if g.Turns < 4 {
			return !g.In[ball] && g.Points[ball] == 0
		}
		return g.In[ball]
	case api.MoveStroke:
		return inTurn(g) && ball == 0 && !lift
	case api.MovePass:
		return (inTurn(g) || g.Phase == 0 && g.Turns >= 4) && ball == 0 && !lift
	case api.MoveBisque, api.MoveHalf:
		return g.Phase == 0 && g.Turns >= 4 && g.Last != -1 && ball == g.Last && !lift && g.Halves[ball%2] >= 6-kind
	}
	return false
}

// modelMoves returns the moves that are allowed, in order.
func modelMoves(g api.Game) []api.Move {
	var l []api.Move
	for _, kind := range []int{api.MoveChoose, api.MoveStroke, api.MovePass, api.MoveBisque, api.MoveHalf} {
		for ball := range 4 {
			for _, lift := range []bool{false, true} {
				if modelAllowed(g, kind, ball, lift) {
					l = append(l, api.Move{Kind: kind, Ball: ball, Lift: lift})
				}
			}
		}
	}
	return l
}

// modelPossible reports whether the events of a stroke are possible.
func modelPossible(g api.Game, l []api.Event) bool {
	if len(l) > 24 {
		return false
	}
	for i, x := range l {
		if !within(x.Kind, 1, 5) ||
			x.Kind != 5 && !inPlay(g, x.Ball) ||
			x.Kind == 1 && x.Ball == g.Ball ||
			x.Kind == 5 && i != len(l)-1 {
			return false
		}
	}
	return true
}

// model does what the definitions of moves and strokes say, sentence by sentence.
type model struct {
	g, before    api.Game
	c            api.Code
	croquet      int // the ball of which croquet is taken
	roquet       int
	roquetPegged bool
	run          bool
	turnIsToEnd  bool
}

// modelPlay returns the position after a move that is allowed.
func modelPlay(g api.Game, x api.Move) api.Game {
	m := &model{g: g, before: g, c: modelLaws[g.Code], croquet: -1, roquet: -1}
	switch x.Kind {
	case api.MoveChoose:
		m.turnBegins()
		m.g.In[x.Ball], m.g.Ball, m.g.Began = true, x.Ball, g.Points[x.Ball]
		m.g.Dead, m.g.Taken, m.g.Half, m.g.Last = [4]bool{}, -1, false, -1
		m.g.Lift[g.Side] = false
		m.g.Phase = 1
	case api.MovePass:
		if g.Phase == 0 {
			m.turnBegins()
		}
		m.turnEnds()
	case api.MoveBisque, api.MoveHalf:
		m.g.Side = g.Last % 2
		m.g.Halves[m.g.Side] -= 6 - x.Kind
		m.turnBegins()
		m.g.Ball, m.g.Began, m.g.Dead = g.Last, g.Points[g.Last], [4]bool{}
		m.g.Half, m.g.Last, m.g.Phase = x.Kind == api.MoveHalf, -1, 1
	case api.MoveStroke:
		m.stroke(x.Events)
	}
	return m.g
}

func (m *model) turnBegins() {
	if m.g.Turns == 1073741824 {
		m.g.Turns = 1073741823
	} else {
		m.g.Turns++
	}
}

func (m *model) turnEnds() {
	s := m.g.Side
	if m.g.Ball != -1 {
		for _, hoop := range m.c.Lifts {
			if hoop != 0 && m.g.Points[m.g.Ball] >= hoop && m.g.Began < hoop {
				m.g.Lift[1-s] = true
			}
		}
	}
	m.g.Last = -1
	if m.c.Bisques && m.g.Ball != -1 && m.g.In[m.g.Ball] && m.g.Turns >= 4 {
		m.g.Last = m.g.Ball
	}
	m.g.Side, m.g.Phase, m.g.Ball, m.g.Taken, m.g.Dead, m.g.Half, m.g.Began = 1-s, 0, -1, -1, [4]bool{}, false, 0
}

func (m *model) stroke(l []api.Event) {
	striker := m.g.Ball
	if m.g.Phase == 2 {
		m.g.Dead[m.g.Taken] = true
		m.croquet = m.g.Taken
	}
	for _, x := range l {
		m.event(x)
	}
	switch {
	case bothOut(m.g, 0) || bothOut(m.g, 1):
		m.g.Phase, m.g.Winner = 4, 0
		if bothOut(m.g, 1) {
			m.g.Winner = 1
		}
		m.g.Ball, m.g.Taken, m.g.Dead, m.g.Half, m.g.Began, m.g.Last = -1, -1, [4]bool{}, false, 0, -1
	case m.turnIsToEnd || m.g.Points[striker] == 13:
		m.turnEnds()
	case m.roquet != -1:
		m.g.Taken, m.g.Phase = m.roquet, 2
	case m.run || m.croquet != -1:
		m.g.Taken, m.g.Phase = -1, 3
	default:
		m.turnEnds()
	}
}

func (m *model) event(x api.Event) {
	g, ball := &m.g, x.Ball
	if x.Kind == api.EventFault {
		m.g = m.before
		m.turnIsToEnd = true
		return
	}
	if bothOut(*g, 0) || bothOut(*g, 1) || !g.In[ball] {
		return
	}
	own := g.Half && ball%2 == g.Side
	rover := func(b int) bool { return g.Points[b] == m.c.Hoops }
	switch x.Kind {
	case api.EventHit:
		if m.roquet == -1 && !m.roquetPegged && g.In[g.Ball] && !g.Dead[ball] {
			m.roquet = ball
		}
	case api.EventHoop:
		if rover(ball) {
			return
		}
		if ball == g.Ball {
			if m.roquet == -1 && !g.Half {
				g.Points[ball]++
				g.Dead = [4]bool{}
				m.run = true
			}
		} else if m.c.Peels && !own {
			g.Points[ball]++
		}
	case api.EventPeg:
		partner := (ball + 2) % 4
		if !rover(ball) || own || m.c.Partner && !rover(partner) && g.Points[partner] != 13 {
			return
		}
		if ball == g.Ball && m.roquet != -1 || ball != g.Ball && !rover(g.Ball) {
			return
		}
		g.Points[ball], g.In[ball], g.Dead[ball] = 13, false, false
		if m.roquet == ball {
			m.roquet, m.roquetPegged, m.run = -1, true, true
		}
	case api.EventOff:
		if m.croquet == -1 {
			return
		}
		if ball == m.croquet {
			m.turnIsToEnd = true
		}
		if ball == g.Ball && m.roquet == -1 && !m.run {
			m.turnIsToEnd = true
		}
	}
}
