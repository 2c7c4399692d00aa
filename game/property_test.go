package game_test

import (
	"math/rand"
	"testing"

	"roquet/api"
	"roquet/game"
)

// step is a move, and the positions before and behind it.
type step struct {
	before, behind api.Game
	m              api.Move
}

// walk plays moves from new and from other legal positions on, and looks at each; restart tells that a game begins.
func walk(t *testing.T, seed int64, restart func(g api.Game), look func(x step)) {
	t.Helper()
	r := dice(seed)
	for range 1500 {
		g := beginning(t, r)
		restart(g)
		for range 60 {
			if g.Phase == api.PhaseOver {
				break
			}
			m := anyMove(t, r, g)
			next := mustPlay(t, g, m)
			look(step{g, next, m})
			g = next
		}
	}
}

// beginning returns a position from which a game goes on.
func beginning(t *testing.T, r *rand.Rand) api.Game {
	t.Helper()
	if r.Intn(3) > 0 {
		return anyGame(r)
	}
	code := r.Intn(4)
	halves := [2]int{}
	if modelLaws[code].Bisques {
		halves = [2]int{r.Intn(41), r.Intn(5)}
	}
	return mustNew(t, code, halves)
}

// P5.6, G2: a new position is legal, and so is each one behind a move that is allowed.
func TestLegal(t *testing.T) {
	over := 0
	check := func(g api.Game) {
		if e := game.Check(g); e != api.OK || !modelLegal(g) {
			t.Fatalf("Check(%v): error %d", g, e)
		}
	}
	walk(t, 61, check, func(x step) {
		check(x.behind)
		if x.behind.Phase == api.PhaseOver {
			over++
		}
	})
	if over < 100 {
		t.Errorf("only %d games came to an end", over)
	}
}

// P5.8: points become no less; a fault and a pass change no points and no ball in play; in a half bisque the side whose turn it is scores nothing.
func TestPoints(t *testing.T) {
	faults, halves := 0, 0
	walk(t, 62, func(api.Game) {}, func(x step) {
		for ball := range x.before.Points {
			if x.behind.Points[ball] < x.before.Points[ball] {
				t.Fatalf("less points: %v", x)
			}
			if x.before.Half && ball%2 == x.before.Side && x.behind.Points[ball] != x.before.Points[ball] {
				t.Fatalf("points in a half bisque: %v", x)
			}
		}
		if x.before.Half {
			halves++
		}
		isFault := len(x.m.Events) > 0 && x.m.Events[len(x.m.Events)-1].Kind == api.EventFault
		if isFault {
			faults++
		}
		if (isFault || x.m.Kind == api.MovePass) && (x.behind.Points != x.before.Points || x.behind.In != x.before.In) {
			t.Fatalf("points by a fault or a pass: %v", x)
		}
	})
	if faults < 500 || halves < 500 {
		t.Errorf("only %d faults, and %d strokes of half bisques", faults, halves)
	}
}

// P5.9: between two hoops of the striker's ball in a turn, croquet is taken of each ball at most once.
func TestOneRoquetOfEach(t *testing.T) {
	var taken [4]bool
	again := 0
	forget := func(g api.Game) { taken = g.Dead }
	walk(t, 63, forget, func(x step) {
		if x.before.Phase != api.PhaseCroquet || x.m.Kind != api.MoveStroke {
			if !inTurn(x.behind) || !inTurn(x.before) {
				taken = [4]bool{}
			}
		} else {
			if taken[x.before.Taken] {
				t.Fatalf("croquet of a ball for the second time: %v", x)
			}
			taken[x.before.Taken] = true
		}
		if inTurn(x.before) && inTurn(x.behind) && x.behind.Points[x.before.Ball] > x.before.Points[x.before.Ball] {
			if taken != [4]bool{} {
				again++
			}
			taken = [4]bool{}
		}
		if !inTurn(x.behind) {
			taken = [4]bool{}
		}
	})
	if again < 300 {
		t.Errorf("only %d hoops behind a croquet", again)
	}
}

// P5.10: a turn begins with the moves that are named, and with nothing else; when it ends the other side has the next one.
func TestTurns(t *testing.T) {
	walk(t, 64, func(api.Game) {}, func(x step) {
		begins := x.m.Kind == api.MoveChoose || x.m.Kind == api.MoveBisque || x.m.Kind == api.MoveHalf ||
			x.m.Kind == api.MovePass && x.before.Phase == api.PhaseStart
		turns := x.before.Turns
		if begins && turns == api.MaxTurns {
			turns = api.MaxTurns - 1
		} else if begins {
			turns++
		}
		if x.behind.Turns != turns {
			t.Fatalf("a turn begins: %v, but %v", begins, x)
		}
		if x.behind.Phase == api.PhaseStart && (x.behind.Side != 1-x.before.Side || inTurn(x.before) && x.behind.Side == x.before.Ball%2) {
			t.Fatalf("the turn ended, and the same side goes on: %v", x)
		}
		if inTurn(x.behind) && inTurn(x.before) && (x.behind.Side != x.before.Side || x.behind.Ball != x.before.Ball) {
			t.Fatalf("another ball goes on: %v", x)
		}
	})
}

// P5.11: when a game is over, both balls of the winner are pegged out, and no move is allowed.
func TestEnd(t *testing.T) {
	ends := [2]int{}
	walk(t, 65, func(api.Game) {}, func(x step) {
		g := x.behind
		if (g.Phase == api.PhaseOver) != (bothOut(g, 0) || bothOut(g, 1)) {
			t.Fatalf("over or not: %v", x)
		}
		if g.Phase != api.PhaseOver {
			return
		}
		if g.Winner < 0 || g.Winner > 1 || !bothOut(g, g.Winner) || len(mustMoves(t, g)) > 0 {
			t.Fatalf("not over: %v", x)
		}
		ends[g.Winner]++
	})
	if ends[0] < 30 || ends[1] < 30 {
		t.Errorf("games ended %v", ends)
	}
}

// R5, R10: a move is not changed, and what is played again is the same.
func TestAgain(t *testing.T) {
	walk(t, 66, func(api.Game) {}, func(x step) {
		l := append(make([]api.Event, 0, 30), x.m.Events...)
		if next, e := game.Play(x.before, x.m); next != x.behind || e != api.OK {
			t.Fatalf("again: %v, error %d, not %v", next, e, x)
		}
		for i := range l {
			if l[i] != x.m.Events[i] {
				t.Fatalf("events have changed: %v", x)
			}
		}
	})
}
