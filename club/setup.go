package club

import (
	"slices"

	"roquet/api"
	"roquet/game"
	"roquet/lawn"
	"roquet/referee"
	"roquet/stroke"
)

// CheckSetup reports whether a setup is valid.
func CheckSetup(s api.Setup) api.Errno {
	if e := stroke.CheckGround(s.Ground); e != api.OK {
		return e
	}
	if len(s.Ground.Balls) != api.Balls || !codeFits(s) || !courseFits(s) ||
		referee.CheckBook(s.Book) != api.OK || !between(s.Limit, 0, api.MaxTicks) {
		return api.ErrArg
	}
	return api.OK
}

// codeFits reports whether the code of a setup is one, and the halves are possible for it.
func codeFits(s api.Setup) bool {
	_, e := game.New(s.Code, s.Halves)
	return e == api.OK
}

// courseFits reports whether the course of a setup, whose ground and code are valid, has as many gates as the code asks for, and all balls can run them.
func courseFits(s api.Setup) bool {
	laws, _ := game.Laws(s.Code)
	if len(s.Course) != laws.Hoops {
		return false
	}
	for _, gate := range s.Course {
		for _, b := range s.Ground.Balls {
			if passes, _ := lawn.Passes(s.Ground.Lawn, gate.Hoop, b.Radius); !passes {
				return false
			}
		}
	}
	return true
}

// setup is a setup that is valid. It is never changed.
type setup struct{ api.Setup }

// setupOf returns a valid setup in memory of its own.
func setupOf(s api.Setup) setup {
	s.Ground.Balls = slices.Clone(s.Ground.Balls)
	s.Ground.Lawn.Hoops = slices.Clone(s.Ground.Lawn.Hoops)
	s.Ground.Lawn.Cells = slices.Clone(s.Ground.Lawn.Cells)
	s.Course = slices.Clone(s.Course)
	s.Book.Articles = slices.Clone(s.Book.Articles)
	for i := range s.Book.Articles {
		a := &s.Book.Articles[i]
		a.If, a.Unless = slices.Clone(a.If), slices.Clone(a.Unless)
	}
	return setup{s}
}

// radius returns the radius of a ball.
func (s setup) radius(ball int) int64 { return s.Ground.Balls[ball].Radius }

// peg returns the number of the peg among the posts.
func (s setup) peg() int { return 2 * len(s.Ground.Lawn.Hoops) }

// gateOf returns the gate of a ball in a legal position, if it has one.
func (s setup) gateOf(g api.Game, ball int) (api.Gate, bool) {
	// A rover has run the whole course.
	if !g.In[ball] || g.Points[ball] >= len(s.Course) {
		return api.Gate{}, false
	}
	return s.Course[g.Points[ball]], true
}

// isBall reports whether there is a ball with this number.
func isBall(ball int) bool { return between(ball, 0, api.Balls-1) }

// between reports whether n is from low to high.
func between[T int | int64](n, low, high T) bool {
	return low <= n && n <= high
}
