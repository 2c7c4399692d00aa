package club_test

import (
	"testing"

	"roquet/api"
	"roquet/game"
)

// P12.2: a ball that is brought in is put on a baulk.
func TestBringIn(t *testing.T) {
	for _, p := range []api.Point{at(5000, 5000), at(27000, 5000), at(50000, 5000), at(50000, 195000), at(95000, 195000)} {
		m := mustNew(t, setup())
		x := done(t, "a baulk", m, choose(2, p), api.Move{Kind: api.MoveChoose, Ball: 2}, nil, at(0, 0), at(0, 0), p, at(0, 0))
		if g := m.Game(); x.Ticks != 0 || x.Knocks != 0 || g.Ball != 2 || g.Phase != api.PhaseStroke || g.Turns != 1 {
			t.Errorf("the ball 2 at %v: %v, %v", p, x, g)
		}
	}
	m := mustNew(t, setup())
	for _, p := range []api.Point{
		at(4999, 5000), at(50001, 5000), at(95000, 5000), at(27000, 4999), at(27000, 5001), at(5000, 50000),
		at(49999, 195000), at(95001, 195000), at(5000, 195000), at(70000, 195001), at(0, 0), at(-5000, 5000), at(far, far),
	} {
		refused(t, "no baulk", m, choose(0, p), api.ErrRule)
	}
}

// P12.2: a ball that is put on a baulk touches nothing there.
func TestBaulkTaken(t *testing.T) {
	m := mustNew(t, setup())
	mustDo(t, m, choose(0, at(30000, 5000)), pass())
	for _, p := range []api.Point{at(30000, 5000), at(35891, 5000), at(24109, 5000)} {
		refused(t, "the ball 0 is there", m, choose(1, p), api.ErrRule)
	}
	done(t, "beside the ball 0", m, choose(3, at(35892, 5000)), api.Move{Kind: api.MoveChoose, Ball: 3}, nil,
		at(30000, 5000), at(0, 0), at(0, 0), at(35892, 5000))
	// A hoop, and the peg, on a baulk.
	m = mustNew(t, setupWith(func(s *api.Setup) {
		s.Ground.Lawn.Hoops[1] = api.Hoop{X: 30000, Y: 5000, Gap: 6000, Wire: 500}
		s.Ground.Lawn.Peg.At = at(70000, 195000)
	}))
	for _, p := range []api.Point{at(26500, 5000), at(29944, 5000), at(30056, 5000), at(66000, 195000), at(74145, 195000)} {
		refused(t, "a post is there", m, choose(0, p), api.ErrRule)
	}
	done(t, "in a hoop", m, choose(0, at(30000, 5000)), api.Move{Kind: api.MoveChoose}, nil, at(30000, 5000), at(0, 0), at(0, 0), at(0, 0))
	done(t, "beside the peg", m, pass(), api.Move{Kind: api.MovePass}, nil)
	done(t, "beside the peg", m, choose(1, at(74146, 195000)), api.Move{Kind: api.MoveChoose, Ball: 1}, nil)
}

// P12.2: a ball in play stays where it is, unless it is lifted.
func TestChooseAndLift(t *testing.T) {
	lifts := func(g *api.Game) { g.Lift[0] = true }
	start, l := startOf(api.CodeAdvanced, lifts), spread()
	s := setupWith(codeIs(api.CodeAdvanced))
	for _, p := range []api.Point{at(0, 0), at(27000, 5000), at(far, -far)} {
		m := mustResume(t, s, start, l)
		done(t, "no lift", m, choose(2, p), api.Move{Kind: api.MoveChoose, Ball: 2}, nil, l...)
		if m.Game().Lift[0] {
			t.Errorf("the lift is left: %v", m.Game())
		}
	}
	m := mustResume(t, s, start, l)
	refused(t, "a lift to no baulk", m, lift(0, at(5000, 50000)), api.ErrRule)
	refused(t, "a lift of a ball of the other side", m, lift(1, at(27000, 5000)), api.ErrState)
	done(t, "a lift", m, lift(0, at(27000, 5000)), api.Move{Kind: api.MoveChoose, Ball: 0, Lift: true}, nil, put(l, 0, at(27000, 5000))...)
	refused(t, "a second ball", m, choose(2, at(27000, 5000)), api.ErrState)

	// Its own place is free for a ball that is lifted, the place of another one is not.
	l = put(l, 0, at(27000, 5000), 1, at(70000, 195000))
	m = mustResume(t, s, start, l)
	refused(t, "a lift to the other ball", m, lift(0, at(70000, 195000)), api.ErrRule)
	done(t, "a lift to beside where it was", m, lift(0, at(27001, 5000)), api.Move{Kind: api.MoveChoose, Ball: 0, Lift: true}, nil, put(l, 0, at(27001, 5000))...)

	m = mustResume(t, s, startOf(api.CodeAdvanced), spread())
	refused(t, "a lift without a right, to no baulk", m, lift(0, at(1, 1)), api.ErrState)
	refused(t, "a lift without a right", m, lift(0, at(27000, 5000)), api.ErrState)
}

// P12.2: a ball that is lifted may lie where one was that is not in play.
func TestLiftWithout(t *testing.T) {
	start := startOf(api.CodeAdvanced, func(g *api.Game) { g.Lift[0] = true }, peggedOut(1))
	s := setupWith(codeIs(api.CodeAdvanced), func(s *api.Setup) { s.Ground.Lawn.Yard = 0 })
	m := mustResume(t, s, start, put(spread(), 1, at(0, 0)))
	done(t, "a lift to the corner", m, lift(2, at(0, 0)), api.Move{Kind: api.MoveChoose, Ball: 2, Lift: true}, nil, put(spread(), 1, at(0, 0), 2, at(0, 0))...)
}

// P12.2: passes, bisques and halves of them.
func TestPassAndBisque(t *testing.T) {
	last := func(g *api.Game) { g.Last, g.Halves = 3, [2]int{0, 3} }
	start, l := startOf(api.CodeShort, last), spread()
	for _, x := range []struct {
		d        api.Doing
		move     api.Move
		side     int
		ball     int
		left     int
		phase    int
		isHalved bool
	}{
		{pass(), api.Move{Kind: api.MovePass}, 1, none, 3, api.PhaseStart, false},
		{bisque(), api.Move{Kind: api.MoveBisque, Ball: 3}, 1, 3, 1, api.PhaseStroke, false},
		{half(), api.Move{Kind: api.MoveHalf, Ball: 3}, 1, 3, 2, api.PhaseStroke, true},
	} {
		m := mustResume(t, setup(), start, l)
		y := done(t, "between two turns", m, x.d, x.move, nil, l...)
		if g := m.Game(); y.Ticks != 0 || y.Knocks != 0 || g.Side != x.side || g.Ball != x.ball || g.Halves[1] != x.left || g.Phase != x.phase || g.Half != x.isHalved || g.Turns != 5 {
			t.Errorf("Do(%v): %v, %v", x.d, y, g)
		}
		if want, e := game.Play(start, x.move); e != api.OK || m.Game() != want {
			t.Errorf("Do(%v): %v, want %v", x.d, m.Game(), want)
		}
	}
	m := mustResume(t, setup(), turnOf(api.CodeShort), l)
	refused(t, "a bisque in a turn", m, bisque(), api.ErrState)
	refused(t, "a half bisque in a turn", m, half(), api.ErrState)
	done(t, "a pass in a turn", m, pass(), api.Move{Kind: api.MovePass}, nil, l...)
	refused(t, "a bisque without any", m, bisque(), api.ErrState)
	refused(t, "a half bisque without any", m, half(), api.ErrState)
	m = mustResume(t, setup(), overOf(api.CodeShort), l)
	for _, d := range doings(pass(), bisque(), half(), choose(1, at(27000, 5000)), strike(at(0, 1), 1000)) {
		refused(t, "the game is over", m, d, api.ErrState)
	}
	m = mustNew(t, setup())
	for _, d := range doings(pass(), bisque(), half(), choose(1, at(27000, 5000)), strike(at(0, 1), 1000)) {
		refused(t, "the first turn", m, d, api.ErrState)
	}
}
