package mistake_test

import (
	"slices"
	"testing"

	"roquet/api"
	"roquet/game"
	"roquet/mistake"
)

// wrongBallGame returns the deeds of the chapter's examples.
func wrongBallGame() []api.Deed {
	return deeds(choose(0), strike(hit(1)), otherBall(2, hoop(2)), strike(hit(3)))
}

// The chapter's examples, one after another.
func TestExamples(t *testing.T) {
	g := fourTurns(t, api.CodeAssociation, [2]int{})
	if g.Side != 0 {
		t.Fatalf("after the first four turns: %v", g)
	}
	l := wrongBallGame()
	o := mustReplay(t, g, l[:3])
	if o.Game.Points != [4]int{2: 1} || o.Game.Phase != api.PhaseContinue || o.Game.Ball != 2 {
		t.Errorf("the deeds 0 to 2: %v", o)
	}
	o = mustReplay(t, g, l)
	if o.Game.Ball != 2 || o.Game.Phase != api.PhaseCroquet || o.Game.Taken != 3 || !slices.Equal(o.Stands, []int{0, 1, 2, 3}) || len(o.Rulings) > 0 {
		t.Errorf("the deeds 0 to 3: %v", o)
	}
	claimed := join(l, deeds(claim(2)))
	o = mustReplay(t, g, claimed)
	inTime := api.Ruling{Claim: 4, Deed: 2, Wrong: api.WrongBall, Count: 1, Most: 3, InTime: true}
	if o.Game.Side != 1 || o.Game.Phase != api.PhaseStart || o.Game.Points != [4]int{} || !slices.Equal(o.Stands, []int{0, 1}) || !slices.Equal(o.Rulings, []api.Ruling{inTime}) {
		t.Errorf("a claim: %v", o)
	}
	if c := mustClean(t, g, claimed); !sameDeeds(c, deeds(choose(0), strike(hit(1)), pass())) {
		t.Errorf("the clean record: %v", c)
	}
	if would, e := mistake.Would(g, claimed); would != o.Game || e != api.OK {
		t.Errorf("the game that would have been: %v, error %d, want %v", would, e, o.Game)
	}
	late := join(l, times(3, strike(hoop(2))), deeds(claim(2)))
	o = mustReplay(t, g, late)
	tooLate := api.Ruling{Claim: 7, Deed: 2, Wrong: api.WrongBall, Count: 4, Most: 3}
	if o.Game.Points != [4]int{2: 4} || !slices.Equal(o.Stands, []int{0, 1, 2, 3, 4, 5, 6}) || !slices.Equal(o.Rulings, []api.Ruling{tooLate}) {
		t.Errorf("a late claim: %v", o)
	}
}

// The document's own example: with three strokes behind it, a stroke with the partner may still be claimed.
func TestExampleOfTheDocument(t *testing.T) {
	g := fourTurns(t, api.CodeAdvanced, [2]int{})
	before := mustPlay(t, g, choose(0), strike(hit(1)))
	o := mustReplay(t, g, join(wrongBallGame(), times(2, strike(hoop(2))), deeds(claim(2))))
	if o.Game != mustPlay(t, before, pass()) || o.Rulings[0].Count != 3 || !o.Rulings[0].InTime {
		t.Errorf("a claim behind three strokes: %v", o)
	}
}

// The example of README.md.
func TestReadme(t *testing.T) {
	p, e := game.New(api.CodeAssociation, [2]int{3, 0})
	if e != api.OK {
		t.Fatal(e)
	}
	p = mustPlay(t, p, choose(0), strike(), choose(1), strike(hit(0)))
	record := []api.Deed{
		{Kind: api.DeedMove, Move: api.Move{Kind: api.MoveStroke}},
		{Kind: api.DeedWrong, Wrong: api.WrongCroquet, Ball: 0, Events: []api.Event{{Kind: api.EventHoop, Ball: 1}}},
		{Kind: api.DeedClaim, About: 1},
	}
	o, n, e := mistake.Replay(p, record)
	if e != api.OK || n != 3 || !slices.Equal(o.Stands, []int{0}) || o.Game.Points[1] != 0 || o.Game.Phase != api.PhaseStart {
		t.Errorf("Replay: %v, %d, error %d", o, n, e)
	}
	if c, e := mistake.Clean(p, record); e != api.OK || !sameDeeds(c, deeds(strike(), pass())) {
		t.Errorf("Clean: %v, error %d", c, e)
	}
	if q, e := mistake.Would(p, record); e != api.OK || q != o.Game {
		t.Errorf("Would: %v, error %d", q, e)
	}
}
