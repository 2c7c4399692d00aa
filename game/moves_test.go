package game_test

import (
	"slices"
	"testing"

	"roquet/api"
	"roquet/game"
)

// P5.2: the moves that are allowed, in order.
func TestMoves(t *testing.T) {
	bisquer := with(turnOf(api.CodeAssociation), bisques, ended(0))
	lifter := with(turnOf(api.CodeAdvanced), ended(none), func(g *api.Game) { g.Lift[1] = true })
	early := func(in [4]bool, p ...int) api.Game {
		g := mustNew(t, api.CodeAdvanced, [2]int{})
		for ball := range in {
			if in[ball] || p[ball] > 0 {
				g.Turns++
			}
		}
		g.In, g.Points, g.Side, g.Lift = in, [4]int(p), g.Turns%2, [2]bool{true, true}
		return g
	}
	for _, x := range []struct {
		name string
		g    api.Game
		want []api.Move
	}{
		{"at first", early([4]bool{}, 0, 0, 0, 0), []api.Move{choose(0), choose(2)}},
		{"in the second turn", early([4]bool{false, false, true}, 0, 0, 5, 0), []api.Move{choose(1), choose(3)}},
		{"in the third turn", early([4]bool{true, true}, 0, 0, 0, 0), []api.Move{choose(2)}},
		{"in the third turn, with the other ball", early([4]bool{false, true, true}, 0, 0, 0, 0), []api.Move{choose(0)}},
		{"in the fourth turn", early([4]bool{true, false, true, true}, 0, 0, 0, 0), []api.Move{choose(1)}},
		{"in the third turn, one pegged out", early([4]bool{false, true}, 13, 0, 0, 0), []api.Move{choose(2)}},
		{"in the fifth turn", early(all, 0, 0, 0, 0), []api.Move{choose(0), lift(0), choose(2), lift(2), pass()}},
		{"with halves", bisquer, []api.Move{choose(1), choose(3), pass(), bisque(0), half(0)}},
		{"with the other ball last", with(bisquer, func(g *api.Game) { g.Last = 2 }), []api.Move{choose(1), choose(3), pass(), bisque(2), half(2)}},
		{"with two halves", with(bisquer, func(g *api.Game) { g.Halves[0] = 2 }), []api.Move{choose(1), choose(3), pass(), bisque(0), half(0)}},
		{"with one half", with(bisquer, func(g *api.Game) { g.Halves[0] = 1 }), []api.Move{choose(1), choose(3), pass(), half(0)}},
		{"with no halves", with(bisquer, func(g *api.Game) { g.Halves[0] = 0 }), []api.Move{choose(1), choose(3), pass()}},
		{"with no ball last", with(bisquer, func(g *api.Game) { g.Last = none }), []api.Move{choose(1), choose(3), pass()}},
		{"with a ball pegged out", with(bisquer, points(2, 13, 3, 4)), []api.Move{choose(3), pass(), bisque(0), half(0)}},
		{"with a lift", lifter, []api.Move{choose(1), lift(1), choose(3), lift(3), pass()}},
		{"with a lift of the other side", with(lifter, func(g *api.Game) { g.Lift = [2]bool{true, false} }), []api.Move{choose(1), choose(3), pass()}},
		{"with a lift of one ball", with(lifter, points(2, 3, 4, 13)), []api.Move{choose(1), lift(1), pass()}},
		{"in the first stroke", with(turnOf(api.CodeAssociation), bisques), []api.Move{strike(), pass()}},
		{"in croquet", with(turnOf(api.CodeAdvanced), croquetOf(2), func(g *api.Game) { g.Lift[0] = true }), []api.Move{strike(), pass()}},
		{"in continuation", with(turnOf(api.CodeFormer), goesOn), []api.Move{strike(), pass()}},
		{"in the first turn", with(mustNew(t, api.CodeShort, [2]int{4, 4}), func(g *api.Game) { g.Phase, g.Ball, g.Turns, g.In[0] = 1, 0, 1, true }), []api.Move{strike(), pass()}},
		{"at the end", with(turnOf(api.CodeShort), points(13, 2, 13, 4), won(0)), nil},
	} {
		if l := mustMoves(t, x.g); !sameMoves(l, x.want) {
			t.Errorf("%s: Moves(%v): %v, want %v", x.name, x.g, l, x.want)
		}
	}
}

// P5.2, R5: moves of any position are those of the definition; what is done with them changes no others.
func TestMovesOfAll(t *testing.T) {
	r := dice(52)
	for range 40000 {
		g := anyGame(r)
		l := mustMoves(t, g)
		if !sameMoves(l, modelMoves(g)) {
			t.Fatalf("Moves(%v): %v, want %v", g, l, modelMoves(g))
		}
		for i := range l {
			l[i] = api.Move{Kind: 9, Ball: 9}
		}
		if again := mustMoves(t, g); !sameMoves(again, modelMoves(g)) {
			t.Fatalf("Moves(%v) again: %v", g, again)
		}
	}
}

// P5.7: a move is allowed just if it is listed, and there is one until the game is over.
func TestListed(t *testing.T) {
	r := dice(57)
	for range 3000 {
		g := anyGame(r)
		l := mustMoves(t, g)
		if (len(l) == 0) != (g.Phase == api.PhaseOver) {
			t.Fatalf("Moves(%v): %v", g, l)
		}
		for _, kind := range []int{-1, 0, 1, 2, 3, 4, 5, 6, 1 << 40} {
			for _, ball := range []int{-1 << 40, -1, 0, 1, 2, 3, 4, 5} {
				for _, lift := range []bool{false, true} {
					m := api.Move{Kind: kind, Ball: ball, Lift: lift}
					listed := slices.ContainsFunc(l, func(x api.Move) bool { return x.Kind == kind && x.Ball == ball && x.Lift == lift })
					if next, e := game.Play(g, m); listed != (e == api.OK) || !listed && (e != api.ErrState || next != api.Game{}) {
						t.Fatalf("Play(%v, %v): %v, error %d, of the moves %v", g, m, next, e, l)
					}
				}
			}
		}
	}
}

// P5.2: the balls that may be roqueted.
func TestLive(t *testing.T) {
	g := turnOf(api.CodeAssociation)
	other := with(g, func(g *api.Game) { g.Side, g.Ball, g.Began, g.Turns = 1, 3, 5, 6 })
	for _, x := range []struct {
		name string
		g    api.Game
		want []int
	}{
		{"all", g, []int{1, 2, 3}},
		{"in continuation", with(g, goesOn), []int{1, 2, 3}},
		{"of another ball", other, []int{0, 1, 2}},
		{"of another ball, one dead", with(other, dead(0)), []int{1, 2}},
		{"one dead", with(g, dead(2)), []int{1, 3}},
		{"all dead", with(g, dead(1, 2, 3), goesOn), nil},
		{"one pegged out", with(g, points(1, 13, 2, 3)), []int{2, 3}},
		{"in the first turn", with(g, func(g *api.Game) { g.Turns, g.In, g.Points, g.Began = 1, [4]bool{true}, [4]int{}, 0 }), nil},
		{"in the second turn", with(g, func(g *api.Game) {
			g.Turns, g.In, g.Points, g.Began, g.Side, g.Ball = 2, [4]bool{true, true}, [4]int{}, 0, 1, 1
		}), []int{0}},
		{"in croquet", with(g, croquetOf(1)), nil},
		{"at the start", with(g, ended(0)), nil},
		{"at the end", with(g, points(13, 1, 13, 1), won(0)), nil},
	} {
		if l, e := game.Live(x.g); e != api.OK || !slices.Equal(l, x.want) {
			t.Errorf("%s: Live(%v): %v, error %d, want %v", x.name, x.g, l, e, x.want)
		}
	}
}

// P5.2: a ball is live just if a stroke with a hit of it takes croquet of it.
func TestLiveOfAll(t *testing.T) {
	r := dice(53)
	for range 20000 {
		g := anyGame(r)
		l, e := game.Live(g)
		if e != api.OK {
			t.Fatalf("Live(%v): error %d", g, e)
		}
		var want []int
		for ball := range g.In {
			if g.Phase == api.PhaseCroquet {
				break
			}
			if next, e := game.Play(g, strike(hit(ball))); e == api.OK && next.Phase == api.PhaseCroquet && next.Taken == ball {
				want = append(want, ball)
			}
		}
		if !slices.Equal(l, want) {
			t.Fatalf("Live(%v): %v, want %v", g, l, want)
		}
	}
}
