package double

import (
	"cmp"

	"roquet/api"
)

// turn is a pass with a start: its index, when it is ready, the seconds that it takes, and the index of the pass for which it waits last.
type turn struct {
	pass  int
	ready int64
	span
	by int
}

// waited returns what the game of a turn waited for it.
func (t turn) waited() int64 {
	return t.start - t.ready
}

// game is one of two games, with its passes that have no start yet.
type game struct {
	all  []api.Pass // of both games
	left []int
	free int64 // when the last of its passes that have a start ends
}

// next returns the next pass of the game, with the start when it is ready, and whether there is one.
func (g *game) next() (turn, bool) {
	if len(g.left) == 0 {
		return turn{}, false
	}
	i := g.left[0]
	ready := max(g.all[i].Asked, g.free)
	return turn{pass: i, ready: ready, span: spanOf(g.all[i], ready), by: api.NoBall}, true
}

// begin has the next pass of the game begin.
func (g *game) begin(t turn) {
	g.left = g.left[1:]
	g.free = t.end
}

// arrangement is what came of passes so far.
type arrangement struct {
	passes []api.Pass
	meets  map[[2]int]bool
	games  [2]*game
	begun  []turn
}

// arrangementOf returns the arrangement of valid passes of which none has a start.
func arrangementOf(l []api.Pass) *arrangement {
	a := &arrangement{passes: l, meets: meetings(l), games: [2]*game{{all: l}, {all: l}}}
	for i, p := range l {
		g := a.games[p.Game]
		g.left = append(g.left, i)
	}
	return a
}

// turn has a pass begin, and returns its turn; there has to be one without a start.
func (a *arrangement) turn() turn {
	t := a.choose()
	a.games[a.passes[t.pass].Game].begin(t)
	a.begun = append(a.begun, t)
	return t
}

// choose returns the turn of the pass that is to begin: the next one of one of both games.
func (a *arrangement) choose() turn {
	p, ok := a.atChance(a.games[0].next)
	q, both := a.atChance(a.games[1].next)
	switch {
	case !ok:
		return q
	case both && a.isBefore(q, p):
		return q
	}
	return p
}

// atChance returns the next pass of a game, with its chance as its start, and whether there is one.
func (a *arrangement) atChance(next func() (turn, bool)) (turn, bool) {
	t, ok := next()
	if !ok {
		return turn{}, false
	}
	// Those of the other game began one after another, so that a start behind one of them is behind the earlier ones, too.
	for _, u := range a.begun {
		if a.areInWay(t, u) {
			t.span, t.by = spanOf(a.passes[t.pass], u.end), u.pass
		}
	}
	return t, true
}

// areInWay reports whether two turns meet, and have a second in common.
func (a *arrangement) areInWay(t, u turn) bool {
	return a.meets[[2]int{t.pass, u.pass}] && t.shares(u.span)
}

// isBefore reports whether q, of the game 1, begins before p.
func (a *arrangement) isBefore(q, p turn) bool {
	if !a.areInWay(p, q) {
		return q.start < p.start
	}
	x, y := a.passes[p.pass], a.passes[q.pass]
	return cmp.Or(cmp.Compare(x.Rank, y.Rank), cmp.Compare(y.Asked, x.Asked)) < 0
}
