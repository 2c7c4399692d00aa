package mistake_test

import (
	"math/rand"
	"testing"

	"roquet/api"
	"roquet/game"
)

// anyGame returns a legal position, in any phase of any code.
func anyGame(r *rand.Rand) api.Game {
	for {
		g := likely(r)
		if game.Check(g) == api.OK {
			return g
		}
	}
}

// likely returns a position that is often legal.
func likely(r *rand.Rand) api.Game {
	g := api.Game{Code: r.Intn(4), Side: r.Intn(2), Phase: among(r, 0, 0, 1, 1, 2, 2, 3, 3, 4), Ball: none, Taken: none, Last: none, Winner: -1}
	c, _ := game.Laws(g.Code)
	g.Turns = among(r, 1, 2, 3, 4, 5, 6, 7, 100, 101, api.MaxTurns-1, api.MaxTurns)
	for i := range min(g.Turns, 4) {
		ball := (i + 2*r.Intn(2)) % 4
		g.In[ball], g.Points[ball] = true, among(r, 0, 1, 5, 6, 9, 11, c.Hoops, c.Hoops)%(c.Hoops+1)
		if r.Intn(6) == 0 {
			g.In[ball], g.Points[ball] = false, api.PeggedOut
		}
	}
	if c.Bisques {
		g.Halves = [2]int{r.Intn(5), among(r, 0, 1, 2, 40)}
	}
	if c.Lifts[0] > 0 {
		g.Lift = [2]bool{r.Intn(2) == 0, r.Intn(2) == 0}
	}
	switch g.Phase {
	case 0:
		if c.Bisques && r.Intn(3) > 0 {
			g.Last = among(r, 1-g.Side, 3-g.Side)
		}
	case 4:
		g.Winner = r.Intn(2)
		for _, ball := range []int{g.Winner, g.Winner + 2} {
			g.In[ball], g.Points[ball] = false, api.PeggedOut
		}
	default:
		g.Ball = among(r, g.Side, g.Side+2)
		g.Began = r.Intn(g.Points[g.Ball] + 1)
		for ball := range g.Dead {
			g.Dead[ball] = ball != g.Ball && g.In[ball] && r.Intn(2) == 0
		}
		if g.Phase == 2 {
			g.Taken = r.Intn(4)
			g.Dead[g.Taken] = false
		}
		g.Half = c.Bisques && r.Intn(4) == 0
	}
	return g
}

// anyEvents returns some events that are possible in a legal position in a turn.
func anyEvents(r *rand.Rand, g api.Game) []api.Event {
	var l []api.Event
	var in []int
	for ball := range g.In {
		if g.In[ball] {
			in = append(in, ball)
		}
	}
	for range among(r, 0, 1, 1, 2, 2, 3, 5) {
		x := event(among(r, 1, 1, 1, 2, 2, 2, 3, 4), among(r, append(in, g.Ball, g.Ball)...))
		if x.Kind != api.EventHit || x.Ball != g.Ball {
			l = append(l, x)
		}
	}
	if r.Intn(20) == 0 {
		l = append(l, event(api.EventFault, among(r, far...)))
	}
	return l
}

// anyMove returns a move that is allowed in a position whose game is not over, with events that are possible.
func anyMove(t *testing.T, r *rand.Rand, g api.Game) api.Deed {
	t.Helper()
	l, e := game.Moves(g)
	if e != api.OK || len(l) == 0 {
		t.Fatalf("Moves(%v): %v, error %d", g, l, e)
	}
	m := among(r, l...)
	if m.Kind == api.MovePass && r.Intn(3) > 0 {
		m = l[0]
	}
	if m.Kind == api.MoveStroke {
		m.Events = anyEvents(r, g)
	}
	return moved(m)
}

// anyWrong returns a wrong stroke that is possible in a position, if one is found.
func anyWrong(r *rand.Rand, g api.Game) (api.Deed, bool) {
	for range 10 {
		kind, ball := 1+r.Intn(3), r.Intn(4)
		if as, ok := modelAsIf(g, kind, ball); ok {
			return wrong(kind, ball, anyEvents(r, as)...), true
		}
	}
	return api.Deed{}, false
}

// anyClaim returns a claim that is possible behind some deeds, if one is found.
func anyClaim(r *rand.Rand, m *model) (api.Deed, bool) {
	var open []int
	for i, d := range m.deeds {
		claimed := false
		for _, x := range m.rulings {
			claimed = claimed || x.Deed == i
		}
		if d.Kind == api.DeedWrong && m.stands[i] && !claimed {
			open = append(open, i)
		}
	}
	if len(open) == 0 {
		return api.Deed{}, false
	}
	return claim(open[max(len(open)-1-r.Intn(4), 0)]), true
}

// anyDeed returns a deed that is possible behind others, with rests in what does not belong to its kind; ok is false if the game is over.
func anyDeed(t *testing.T, r *rand.Rand, m *model) (d api.Deed, ok bool) {
	t.Helper()
	switch r.Intn(6) {
	case 0, 1:
		d, ok = anyClaim(r, m)
	case 2, 3:
		d, ok = anyWrong(r, m.g)
	}
	if !ok && m.g.Phase != api.PhaseOver {
		d, ok = anyMove(t, r, m.g), true
	}
	if r.Intn(3) == 0 {
		d = littered(r, d)
	}
	return d, ok
}

// littered returns a deed with numbers in all that does not belong to its kind.
func littered(r *rand.Rand, d api.Deed) api.Deed {
	if d.Kind != api.DeedMove {
		d.Move = api.Move{Kind: r.Intn(7), Ball: r.Intn(7), Lift: true, Events: []api.Event{hit(r.Intn(9))}}
	}
	if d.Kind != api.DeedWrong {
		d.Wrong, d.Ball, d.Events = r.Intn(7), r.Intn(7), []api.Event{hoop(r.Intn(9))}
	}
	if d.Kind != api.DeedClaim {
		d.About = among(r, far...)
	}
	return d
}

// anyRecord returns a legal position, and a record of deeds that are possible from it on.
func anyRecord(t *testing.T, r *rand.Rand, most int) (api.Game, []api.Deed) {
	t.Helper()
	g := anyGame(r)
	m := &model{g: g}
	for range r.Intn(most + 1) {
		d, ok := anyDeed(t, r, m)
		if !ok {
			break
		}
		if e := m.take(d); e != api.OK {
			t.Fatalf("%v, %v: error %d", m.g, d, e)
		}
	}
	return g, m.deeds
}

// spoilt returns a deed that is often an error.
func spoilt(r *rand.Rand, d api.Deed) api.Deed {
	switch r.Intn(6) {
	case 0:
		d.Kind = among(r, -1, 0, 1, 2, 3, 4)
	case 1:
		d.Wrong = among(r, -1, 0, 1, 2, 3, 4)
	case 2:
		d.Ball = r.Intn(6) - 1
	case 3:
		d.Kind, d.About = api.DeedClaim, r.Intn(20)-1
	case 4:
		d.Move = api.Move{Kind: r.Intn(7), Ball: r.Intn(5), Lift: r.Intn(2) == 0}
	case 5:
		l := make([]api.Event, among(r, 1, 1, 1, api.MaxEvents, api.MaxEvents+1))
		for i := range l {
			l[i] = event(1+r.Intn(5), r.Intn(5))
		}
		d.Events, d.Move.Events = l, l
	}
	return d
}
