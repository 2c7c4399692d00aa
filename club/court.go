package club

import (
	"slices"

	"roquet/api"
	"roquet/game"
	"roquet/lawn"
	"roquet/stroke"
)

// court is how a match stands, with the setup with which it is played.
type court struct {
	setup
	game   api.Game
	places [api.Balls]api.Point // (0, 0) for a ball that is not in play
	out    [api.Balls]bool      // the balls that have left the lawn in what is done: none when it is done
	moves  []api.Move
}

// do does what is done, and brings the balls back that have left. With an error the court is spoilt.
func (c *court) do(a act) (api.Done, error) {
	done, err := a.do(c)
	if err != nil {
		return api.Done{}, err
	}
	if err := c.bringBack(); err != nil {
		return api.Done{}, err
	}
	return done, nil
}

// play plays a move, without what it does on the lawn.
func (c *court) play(m api.Move) error {
	g, e := game.Play(c.game, m)
	if e != api.OK {
		return refusal{e}
	}
	c.game, c.moves = g, append(c.moves, copyOfMove(m))
	return nil
}

// disc returns a ball as a disc.
func (c *court) disc(ball int) api.Disc {
	return api.Disc{At: c.places[ball], R: c.radius(ball)}
}

// others returns all balls in play that are not out, but for some.
func (c *court) others(but ...int) []api.Disc {
	var l []api.Disc
	for ball := range c.places {
		if c.game.In[ball] && !c.out[ball] && !slices.Contains(but, ball) {
			l = append(l, c.disc(ball))
		}
	}
	return l
}

// mayLie reports whether a ball may lie at p with the other balls in play, one of which may be left aside.
func (c *court) mayLie(ball int, p api.Point, aside ...int) bool {
	may, _ := lawn.May(c.Ground.Lawn, p, c.radius(ball), c.others(append(aside, ball)...))
	return may
}

// state returns how the balls lie.
func (c *court) state() api.State {
	s, _ := stroke.Lie(c.Ground, c.places[:])
	for ball, in := range c.game.In {
		s.Out[ball] = !in
	}
	return s
}

// lie lets the balls lie as they do in a state.
func (c *court) lie(s api.State) {
	for ball := range c.places {
		c.places[ball], c.out[ball] = s.Motions[ball].At, s.Out[ball]
	}
}

// bringBack puts balls in play on the yard line that are out, or lie too near to the boundary, and takes those away that are not in play any more.
func (c *court) bringBack() error {
	for ball := range c.places {
		if !c.game.In[ball] {
			c.places[ball], c.out[ball] = api.Point{}, false
			continue
		}
		if !c.out[ball] && (ball == c.game.Ball || !c.isInYard(ball)) {
			continue
		}
		at, e := lawn.Put(c.Ground.Lawn, c.places[ball], c.radius(ball), c.others(ball))
		if e != api.OK {
			return refusal{e}
		}
		c.places[ball], c.out[ball] = at, false
	}
	return nil
}

// isInYard reports whether a ball lies in the yard-line area.
func (c *court) isInYard(ball int) bool {
	_, in, _ := lawn.Spot(c.Ground.Lawn, c.places[ball])
	return in
}

// copyOfMove returns a move in memory of its own.
func copyOfMove(m api.Move) api.Move {
	m.Events = slices.Clone(m.Events)
	return m
}

// copyOfMoves returns moves in memory of their own.
func copyOfMoves(l []api.Move) []api.Move {
	c := make([]api.Move, len(l))
	for i, m := range l {
		c[i] = copyOfMove(m)
	}
	return c
}
