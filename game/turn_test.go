package game_test

import (
	"testing"

	"roquet/api"
	"roquet/game"
)

// turn is a move that is no stroke, from a position on, and the changes by which it comes to another one.
type turn struct {
	name string
	g    api.Game
	m    api.Move
	want []func(*api.Game)
}

// checkTurns plays moves that are no strokes.
func checkTurns(t *testing.T, l []turn) {
	t.Helper()
	for _, x := range l {
		want := with(x.g, x.want...)
		if g, e := game.Play(x.g, x.m); g != want || e != api.OK {
			t.Errorf("%s: %v of %v: %v, error %d, want %v", x.name, x.m, x.g, g, e, want)
		}
		if g := modelPlay(x.g, x.m); g != want {
			t.Errorf("%s: the model of the tests is wrong: %v", x.name, g)
		}
	}
}

// begun returns a change by which a turn with a ball has begun, which has some points then.
func begun(ball, points int) func(*api.Game) {
	return func(g *api.Game) {
		g.Turns++
		g.Phase, g.Ball, g.Began, g.Last, g.Lift[g.Side] = api.PhaseStroke, ball, points, none, false
	}
}

// spent returns a change by which a side took half bisques, and has the turn.
func spent(side, halves int) func(*api.Game) {
	return func(g *api.Game) {
		g.Side = side
		g.Halves[side] -= halves
	}
}

// late is a change to the last turns that are counted.
func late(turns int) func(*api.Game) { return func(g *api.Game) { g.Turns = turns } }

// P5.3: a ball that is chosen is in play, and has the turn.
func TestChoose(t *testing.T) {
	first := mustNew(t, api.CodeShort, [2]int{4, 0})
	start := with(open, ended(0))
	lifting := with(turnOf(api.CodeAdvanced), ended(none), func(g *api.Game) { g.Lift = [2]bool{true, true} })
	in := func(ball int) func(*api.Game) { return func(g *api.Game) { g.In[ball] = true } }
	checkTurns(t, []turn{
		{"the first one", first, choose(0), to(in(0), begun(0, 0))},
		{"the partner first", first, choose(2), to(in(2), begun(2, 0))},
		{"one that has points", start, choose(1), to(begun(1, 3))},
		{"the other one", start, choose(3), to(begun(3, 5))},
		{"without a lift", lifting, choose(1), to(begun(1, 3))},
		{"with a lift", lifting, lift(3), to(begun(3, 5))},
		{"with many turns", with(start, late(api.MaxTurns-1)), choose(1), to(begun(1, 3))},
		{"with too many turns", with(start, late(api.MaxTurns)), choose(1), to(begun(1, 3), late(api.MaxTurns-1))},
	})
	g := mustPlay(t, first, firstTurns()...)
	want := with(first, func(g *api.Game) { g.In, g.Turns, g.Last = all, 4, 3 })
	if g != want {
		t.Errorf("after the first turns: %v, want %v", g, want)
	}
}

// P5.3: a pass ends the turn; in the phase of the start one that begins with it.
func TestPass(t *testing.T) {
	start := with(open, ended(0))
	counted := func(g *api.Game) { g.Turns++ }
	checkTurns(t, []turn{
		{"at the start", start, pass(), to(counted, ended(none))},
		{"at the start, with many turns", with(start, late(api.MaxTurns-1)), pass(), to(counted, ended(none))},
		{"at the start, with too many turns", with(start, late(api.MaxTurns)), pass(), to(late(api.MaxTurns-1), ended(none))},
		{"in the first stroke", open, pass(), to(ended(0))},
		{"in croquet", taking, pass(), to(ended(0))},
		{"in continuation", with(going, dead(1)), pass(), to(ended(0))},
		{"in a half bisque", halfway, pass(), to(ended(0))},
		{"with too many turns", with(open, late(api.MaxTurns)), pass(), to(ended(0))},
		{"without bisques", turnOf(api.CodeFormer), pass(), to(ended(none))},
		{"of the other side", with(open, func(g *api.Game) { g.Side, g.Ball, g.Turns, g.Began = 1, 3, 6, 5 }), pass(), to(ended(3))},
		{"in the fourth turn", with(open, func(g *api.Game) { g.Side, g.Ball, g.Turns, g.Began = 1, 3, 4, 5 }), pass(), to(ended(3))},
		{"in the third turn", with(open, func(g *api.Game) { g.Turns, g.Points[3], g.In[3] = 3, 0, false }), pass(), to(ended(none))},
		{"in the first turn", mustPlay(t, mustNew(t, api.CodeShort, [2]int{}), choose(2)), pass(), to(ended(none))},
	})
}

// P5.3: a bisque, or half of one, lets the ball of the turn before go on.
func TestBisques(t *testing.T) {
	start := with(open, ended(0))
	checkTurns(t, []turn{
		{"a bisque", start, bisque(0), to(spent(0, 2), begun(0, 2))},
		{"half of one", start, half(0), to(spent(0, 1), begun(0, 2), halved)},
		{"with the other ball", with(start, func(g *api.Game) { g.Last = 2 }), bisque(2), to(spent(0, 2), begun(2, 4))},
		{"of the other side", with(start, func(g *api.Game) { g.Side, g.Last = 0, 3 }), bisque(3), to(spent(1, 2), begun(3, 5))},
		{"half of one of the other side", with(start, func(g *api.Game) { g.Side, g.Last = 0, 1 }), half(1), to(spent(1, 1), begun(1, 3), halved)},
		{"with too many turns", with(start, late(api.MaxTurns)), half(0), to(spent(0, 1), begun(0, 2), halved, late(api.MaxTurns-1))},
	})
	g := mustPlay(t, start, bisque(0), strike(), half(0), strike())
	want := with(start, func(g *api.Game) { g.Halves[0], g.Turns = 0, 7 })
	if g != want {
		t.Errorf("after a bisque and a half: %v, want %v", g, want)
	}
}

// P5.3: a turn that began before a lift, and ends at or behind it, gives the other side a lift.
func TestLifts(t *testing.T) {
	g := turnOf(api.CodeAdvanced)
	for began := range 13 {
		for now := began; now <= 13; now++ {
			in := with(g, func(g *api.Game) {
				g.Points, g.Began = [4]int{now, 3, 4, 5}, began
				if now == 13 {
					// It is pegged out in the stroke.
					g.Points[0] = 12
				}
			})
			m := pass()
			if now == 13 {
				m = strike(peg(0))
			}
			next := mustPlay(t, in, m)
			want := began < 7 && now >= 7 || began < 10 && now >= 10
			if next.Lift != [2]bool{false, want} || next.Points[0] != now {
				t.Errorf("from %d to %d: %v, want a lift: %v", began, now, next, want)
			}
		}
	}
}

// P5.3: whoever does not run the hoop in the own turn gives no lift; lifts are kept until a ball is chosen.
func TestLiftsKept(t *testing.T) {
	g := with(turnOf(api.CodeAdvanced), points(6, 6, 6, 9))
	given := with(g, func(g *api.Game) { g.Lift = [2]bool{true, true} })
	second := with(g, func(g *api.Game) { g.Side, g.Ball, g.Turns, g.Began = 1, 3, 6, 9 })
	checkStrokes(t, []stroke{
		{"peels", g, events(hoop(1), hoop(2), hoop(3)), to(scored(1), scored(2), scored(3), ended(none))},
		{"the hoop, and the turn goes on", g, events(hoop(0)), to(scored(0), goesOn)},
		{"the hoop, and the turn ends", with(g, croquetOf(1)), events(hoop(0), off(1)), to(scored(0), ended(none), func(g *api.Game) { g.Lift[1] = true })},
		{"the hoop, and a fault", g, events(hoop(0), fault()), to(ended(none))},
		{"the hoop before, and a fault", with(g, goesOn, func(g *api.Game) { g.Points[0] = 7 }), events(fault()), to(ended(none), func(g *api.Game) { g.Lift[1] = true })},
		{"the hoop of the other side", second, events(hoop(3), hit(1)), to(scored(3), croquetOf(1))},
		{"lifts that are there", given, nil, to(ended(none))},
	})
	checkTurns(t, []turn{
		{"the other side", with(second, goesOn, func(g *api.Game) { g.Points[3] = 10 }), pass(), to(ended(none), func(g *api.Game) { g.Lift[0] = true })},
		{"a pass keeps lifts", with(given, ended(none)), pass(), to(func(g *api.Game) { g.Turns++ }, ended(none))},
		{"no lifts by other codes", with(turnOf(api.CodeFormer), goesOn, func(g *api.Game) { g.Points[0] = 12 }), pass(), to(ended(none))},
		{"none by the other ones", with(going, func(g *api.Game) { g.Points[0] = 12 }), pass(), to(ended(0))},
	})
}

// P5.3: moves of any kind, from any position, as they are defined.
func TestPlayOfAll(t *testing.T) {
	r := dice(56)
	kinds := map[int]int{}
	for range 60000 {
		g := anyGame(r)
		for _, m := range mustMoves(t, g) {
			kinds[m.Kind]++
			if next, e := game.Play(g, m); next != modelPlay(g, m) || e != api.OK {
				t.Fatalf("Play(%v, %v): %v, error %d, want %v", g, m, next, e, modelPlay(g, m))
			}
		}
	}
	for kind := api.MoveChoose; kind <= api.MoveHalf; kind++ {
		if kinds[kind] < 1000 {
			t.Errorf("moves of the kinds %v", kinds)
		}
	}
}
