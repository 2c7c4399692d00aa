package mistake_test

import (
	"slices"
	"testing"

	"roquet/api"
	"roquet/game"
	"roquet/mistake"
)

// P7.2: the positions as if, and what makes a wrong stroke impossible.
func TestAsIf(t *testing.T) {
	open := turnOf(api.CodeAssociation)
	going := with(open, goesOn, dead(1, 3))
	croquet := with(open, croquetOf(1), dead(2, 3))
	start := startOf(api.CodeAssociation)
	bisque := with(start, func(g *api.Game) { g.Last, g.Halves = 0, [2]int{3, 0} })
	struck := func(ball, began int) func(*api.Game) {
		return func(g *api.Game) { g.Ball, g.Began, g.Dead = ball, began, [4]bool{} }
	}
	on := func(ball, began int) func(*api.Game) {
		return func(g *api.Game) {
			g.Phase, g.Side, g.Ball, g.Began, g.Last = api.PhaseContinue, ball%2, ball, began, none
		}
	}
	halved := func(g *api.Game) { g.Half = true }
	alive := func(ball int) func(*api.Game) { return func(g *api.Game) { g.Dead[ball] = false } }
	for _, x := range []struct {
		name string
		g    api.Game
		d    api.Deed
		want api.Game
		e    api.Errno
	}{
		{"the partner, first", open, otherBall(2), with(open, struck(2, 4)), api.OK},
		{"the partner, with dead balls", going, otherBall(2), with(going, struck(2, 4)), api.OK},
		{"the partner, that is dead", with(going, dead(2)), otherBall(2), with(going, struck(2, 4)), api.OK},
		{"the partner, in croquet of another ball", croquet, otherBall(2), with(croquet, struck(2, 4)), api.OK},
		{"the partner, in a half bisque", with(open, halved), otherBall(2), with(open, halved, struck(2, 4)), api.OK},
		{"the partner, of which croquet is to be taken", with(open, croquetOf(2)), otherBall(2), api.Game{}, api.ErrState},
		{"the partner, pegged out", with(open, peggedOut(2)), otherBall(2), api.Game{}, api.ErrState},
		{"the partner of the ball 3", with(open, struck(3, 0), func(g *api.Game) { g.Side, g.Turns = 1, 6 }), otherBall(1), with(open, struck(1, 3), func(g *api.Game) { g.Side, g.Turns = 1, 6 }), api.OK},
		{"the striker's ball itself", open, otherBall(0), api.Game{}, api.ErrState},
		{"a ball of the other side", open, otherBall(1), api.Game{}, api.ErrState},
		{"the other ball of the other side", open, otherBall(3), api.Game{}, api.ErrState},

		{"on with the same ball", start, outOfTurn(0), with(start, on(0, 2)), api.OK},
		{"on with the other one", start, outOfTurn(2), with(start, on(2, 4)), api.OK},
		{"on, where a bisque could be taken", bisque, outOfTurn(0), with(bisque, on(0, 2)), api.OK},
		{"on, with a ball of the side that is to begin", start, outOfTurn(1), api.Game{}, api.ErrState},
		{"on, with its other ball", start, outOfTurn(3), api.Game{}, api.ErrState},
		{"on, with a ball that is pegged out", with(start, peggedOut(2)), outOfTurn(2), api.Game{}, api.ErrState},
		{"on, in a turn", open, outOfTurn(1), api.Game{}, api.ErrState},
		{"on, in a turn that goes on", going, outOfTurn(3), api.Game{}, api.ErrState},
		{"on, before croquet", croquet, outOfTurn(3), api.Game{}, api.ErrState},

		{"croquet at once", open, notRoqueted(1), with(open, croquetOf(1)), api.OK},
		{"croquet of the partner", open, notRoqueted(2), with(open, croquetOf(2)), api.OK},
		{"croquet of a dead ball", going, notRoqueted(1), with(going, alive(1), croquetOf(1)), api.OK},
		{"croquet of a ball that is not dead", going, notRoqueted(2), with(going, croquetOf(2)), api.OK},
		{"croquet of another ball than the roqueted one", croquet, notRoqueted(3), api.Game{}, api.ErrState},
		{"croquet where it is due", croquet, notRoqueted(1), api.Game{}, api.ErrState},
		{"croquet of the striker's ball", open, notRoqueted(0), api.Game{}, api.ErrState},
		{"croquet of a ball that is pegged out", with(open, peggedOut(3)), notRoqueted(3), api.Game{}, api.ErrState},
	} {
		if e := game.Check(x.g); e != api.OK {
			t.Fatalf("%s: the position is not legal", x.name)
		}
		if g, e := mistake.AsIf(x.g, x.d); g != x.want || e != x.e {
			t.Errorf("%s: AsIf(%v, %v): %v, error %d, want %v, error %d", x.name, x.g, x.d, g, e, x.want, x.e)
		}
	}
}

// P7.2: between two turns, and when a game is over, no ball can be struck instead, and no croquet be taken; balls that there are not can't be struck.
func TestAsIfNever(t *testing.T) {
	over := with(turnOf(api.CodeShort), ended(none), peggedOut(0), peggedOut(2), func(g *api.Game) { g.Phase, g.Winner = api.PhaseOver, 0 })
	start := startOf(api.CodeAdvanced)
	never := func(g api.Game, d api.Deed) {
		t.Helper()
		if as, e := mistake.AsIf(g, d); as != (api.Game{}) || e != api.ErrState {
			t.Errorf("AsIf(%v, %v): %v, error %d", g, d, as, e)
		}
	}
	for ball := range 4 {
		never(start, otherBall(ball))
		never(start, notRoqueted(ball))
		for kind := 1; kind <= 3; kind++ {
			never(over, wrong(kind, ball))
		}
	}
	for _, ball := range append(far, -2, -4, 6) {
		for kind := 1; kind <= 3; kind++ {
			for _, g := range []api.Game{start, with(start, func(g *api.Game) { g.Turns, g.Side = 6, 0 }), turnOf(api.CodeAdvanced), over} {
				never(g, wrong(kind, ball))
			}
		}
	}
	// In the first turns some balls are not in play yet.
	one, _ := game.New(api.CodeShort, [2]int{})
	never(one, outOfTurn(1))
	one = mustPlay(t, one, choose(0))
	never(one, otherBall(2))
	never(one, notRoqueted(1))
	one = mustPlay(t, one, strike())
	never(one, outOfTurn(2))
	if g, e := mistake.AsIf(one, outOfTurn(0)); g.Ball != 0 || g.Phase != api.PhaseContinue || e != api.OK {
		t.Errorf("AsIf(%v): %v, error %d", one, g, e)
	}
}

// P7.2: what is no valid wrong stroke; the position comes before it, and it before what is possible.
func TestAsIfErrors(t *testing.T) {
	open := turnOf(api.CodeFormer)
	spoilt := with(open, func(g *api.Game) { g.Turns = 6 })
	over := with(open, ended(none), peggedOut(1), peggedOut(3), func(g *api.Game) { g.Phase, g.Winner = api.PhaseOver, 1 })
	for _, x := range []struct {
		name string
		g    api.Game
		d    api.Deed
	}{
		{"no position", api.Game{}, otherBall(2)},
		{"a position that is not legal", spoilt, otherBall(2)},
		{"a position that is not legal, and a ball that is not possible", spoilt, otherBall(1)},
		{"no deed", open, api.Deed{}},
		{"a move", open, api.Deed{Kind: api.DeedMove, Wrong: 1, Ball: 2}},
		{"a claim", open, api.Deed{Kind: api.DeedClaim, Wrong: 1, Ball: 2}},
		{"the kind 4", open, api.Deed{Kind: 4, Wrong: 1, Ball: 2}},
		{"the kind -1", open, api.Deed{Kind: -1, Wrong: 1, Ball: 2}},
		{"the wrong stroke 0", open, wrong(0, 2)},
		{"the wrong stroke 4", open, wrong(4, 2)},
		{"the wrong stroke -1", open, wrong(-1, 2)},
		{"a move when the game is over", over, pass()},
		{"the wrong stroke 4 with no ball", over, wrong(4, 9)},
	} {
		if g, e := mistake.AsIf(x.g, x.d); g != (api.Game{}) || e != api.ErrArg {
			t.Errorf("%s: %v, error %d", x.name, g, e)
		}
	}
}

// P7.2: what does not belong to it does not matter, and its events do not either.
func TestAsIfLoose(t *testing.T) {
	open := turnOf(api.CodeShort)
	d := otherBall(2, slices.Repeat([]api.Event{event(9, 9)}, 30)...)
	d.Move, d.About = api.Move{Kind: 9, Ball: 9, Lift: true}, 9
	want, _ := mistake.AsIf(open, otherBall(2))
	if g, e := mistake.AsIf(open, d); g != want || g == (api.Game{}) || e != api.OK {
		t.Errorf("AsIf(%v, %v): %v, error %d, want %v", open, d, g, e, want)
	}
}

// P7.2, P7.7: in any positions, any deeds; the position as if is legal.
func TestAsIfOfAll(t *testing.T) {
	r := dice(71)
	seen := map[[2]int]int{}
	for range 40000 {
		g := anyGame(r)
		d := wrong(among(r, 0, 1, 1, 2, 2, 3, 3, 4), r.Intn(6)-1)
		if r.Intn(10) == 0 {
			d.Kind = among(r, 0, 1, 3, 4)
		}
		as, want := api.Game{}, api.ErrArg
		if d.Kind == api.DeedWrong && modelValid(d) {
			want = api.ErrState
			if x, ok := modelAsIf(g, d.Wrong, d.Ball); ok {
				as, want = x, api.OK
			}
		}
		seen[[2]int{d.Wrong, int(want)}]++
		if x, e := mistake.AsIf(g, d); x != as || e != want {
			t.Fatalf("AsIf(%v, %v): %v, error %d, want %v, error %d", g, d, x, e, as, want)
		}
		if want == api.OK && game.Check(as) != api.OK {
			t.Fatalf("as if %v: %v, which is not legal", g, as)
		}
	}
	for kind := 1; kind <= 3; kind++ {
		for _, e := range []api.Errno{api.OK, api.ErrArg, api.ErrState} {
			if seen[[2]int{kind, int(e)}] < 100 {
				t.Errorf("wrong strokes %d with the error %d: %d", kind, e, seen[[2]int{kind, int(e)}])
			}
		}
	}
}
