package game_test

import (
	"testing"

	"roquet/api"
	"roquet/game"
)

// The chapter's examples, one after another.
func TestExamples(t *testing.T) {
	g := mustNew(t, api.CodeAssociation, [2]int{3, 0})
	if l := mustMoves(t, g); !sameMoves(l, []api.Move{choose(0), choose(2)}) {
		t.Errorf("moves of the new position: %v", l)
	}
	g = mustPlay(t, g, choose(0), strike())
	if g.Phase != api.PhaseStart || g.Side != 1 || g.Turns != 1 || g.In != [4]bool{true} || g.Last != none {
		t.Errorf("after the first turn: %v", g)
	}
	g = mustPlay(t, g, choose(1), strike(), choose(2), strike(), choose(3), strike())
	if l := mustMoves(t, g); !sameMoves(l, []api.Move{choose(0), choose(2), pass()}) || g.Last != 3 {
		t.Errorf("moves with all balls in play: %v of %v", l, g)
	}
	g = mustPlay(t, g, choose(0), strike(hit(1)))
	if g.Phase != api.PhaseCroquet || g.Taken != 1 {
		t.Errorf("after a roquet: %v", g)
	}
	g = mustPlay(t, g, strike(hoop(0), hit(3)))
	if g.Points != [4]int{1} || g.Phase != api.PhaseCroquet || g.Taken != 3 || g.Dead != [4]bool{} {
		t.Errorf("after a croquet stroke: %v", g)
	}
	g = mustPlay(t, g, strike(off(3)))
	if g.Phase != api.PhaseStart || g.Side != 1 || g.Last != 0 {
		t.Errorf("after a ball was sent off: %v", g)
	}
	if l := mustMoves(t, g); !sameMoves(l, []api.Move{choose(1), choose(3), pass(), bisque(0), half(0)}) {
		t.Errorf("moves with halves: %v", l)
	}
	g = mustPlay(t, g, half(0), strike(hoop(0)))
	if g.Points != [4]int{1} || g.Phase != api.PhaseStart || g.Side != 1 || g.Halves != [2]int{2, 0} {
		t.Errorf("after a half bisque: %v", g)
	}
}

// The document's own example: a croquet stroke of the ball 1, with the ball 0.
func TestExampleOfTheDocument(t *testing.T) {
	g := mustPlay(t, with(turnOf(api.CodeAssociation), croquetOf(1), dead(2, 3)), strike(hoop(0), hit(3)))
	want := with(turnOf(api.CodeAssociation), scored(0), croquetOf(3))
	if g != want {
		t.Errorf("after a hoop and a hit: %v, want %v", g, want)
	}
}

// The example of README.md.
func TestReadme(t *testing.T) {
	p, n, e := game.PlayAll(mustNew(t, api.CodeAssociation, [2]int{3, 0}), []api.Move{choose(0), strike(), choose(1), strike(hit(0))})
	if e != api.OK || n != 4 || p.Phase != api.PhaseCroquet || p.Ball != 1 || p.Taken != 0 {
		t.Errorf("PlayAll: %v, %d, error %d", p, n, e)
	}
	if l := mustMoves(t, p); !sameMoves(l, []api.Move{strike(), pass()}) {
		t.Errorf("Moves: %v", l)
	}
	if score, e := game.Score(p); score != [2]int{} || e != api.OK {
		t.Errorf("Score: %v, error %d", score, e)
	}
}
