package game_test

import (
	"math"
	"testing"

	"roquet/api"
	"roquet/game"
)

// change is a change of a position, and whether it is legal after that.
type change struct {
	name  string
	do    func(g *api.Game)
	legal bool
}

// checkChanges checks a legal position after each of some changes.
func checkChanges(t *testing.T, g api.Game, l []change) {
	t.Helper()
	for _, x := range append(l, change{"as it is", func(*api.Game) {}, true}) {
		want := api.ErrArg
		if x.legal {
			want = api.OK
		}
		changed := with(g, x.do)
		if e := game.Check(changed); e != want {
			t.Errorf("%s: Check(%v): error %d, want %d", x.name, changed, e, want)
		}
		if modelLegal(changed) != x.legal {
			t.Errorf("%s: the model of the tests is wrong", x.name)
		}
	}
}

// P5.1: the ranges of the numbers.
func TestCheckNumbers(t *testing.T) {
	checkChanges(t, with(turnOf(api.CodeAssociation), bisques), []change{
		{"the code before the first", func(g *api.Game) { g.Code = -1 }, false},
		{"a code without bisques", func(g *api.Game) { g.Code = api.CodeAdvanced }, false},
		{"a code without bisques, and no halves", func(g *api.Game) { g.Code, g.Halves = api.CodeAdvanced, [2]int{} }, true},
		{"another code with bisques", func(g *api.Game) { g.Code = api.CodeShort }, true},
		{"the code behind the last", func(g *api.Game) { g.Code, g.Halves = 4, [2]int{} }, false},
		{"the phase before the first", func(g *api.Game) { g.Phase = -1 }, false},
		{"the phase behind the last", func(g *api.Game) { g.Phase = 5 }, false},
		{"the side -1", func(g *api.Game) { g.Side = -1 }, false},
		{"the side 2", func(g *api.Game) { g.Side = 2 }, false},
		{"points below 0", func(g *api.Game) { g.Points[3] = -1 }, false},
		{"all hoops", func(g *api.Game) { g.Points = [4]int{12, 12, 12, 12} }, true},
		{"all hoops and 1, in play", func(g *api.Game) { g.Points[3] = 13 }, false},
		{"more points", func(g *api.Game) { g.Points[3] = 14 }, false},
		{"no halves", func(g *api.Game) { g.Halves = [2]int{} }, true},
		{"most halves", func(g *api.Game) { g.Halves = [2]int{40, 40} }, true},
		{"too many halves of the side 0", func(g *api.Game) { g.Halves[0] = 41 }, false},
		{"too many halves of the side 1", func(g *api.Game) { g.Halves[1] = 41 }, false},
		{"halves below 0", func(g *api.Game) { g.Halves[1] = -1 }, false},
		{"most turns", func(g *api.Game) { g.Turns = api.MaxTurns }, true},
		{"too many turns", func(g *api.Game) { g.Turns = api.MaxTurns + 1 }, false},
		{"turns below 0", func(g *api.Game) { g.Turns = -1 }, false},
		{"a lift without lifts in the code", func(g *api.Game) { g.Lift[1] = true }, false},
		{"a lift with them", func(g *api.Game) { g.Code, g.Halves, g.Lift = api.CodeAdvanced, [2]int{}, [2]bool{true, true} }, true},
		{"a half bisque", func(g *api.Game) { g.Half = true }, true},
		{"a half bisque without bisques", func(g *api.Game) { g.Code, g.Halves, g.Half = api.CodeFormer, [2]int{}, true }, false},
	})
	checkChanges(t, turnOf(api.CodeShort), []change{
		{"all hoops", func(g *api.Game) { g.Points = [4]int{6, 6, 6, 6} }, true},
		{"more than all hoops", func(g *api.Game) { g.Points[1] = 7 }, false},
		{"pegged out by the longer courses", func(g *api.Game) { g.Points[1], g.In[1] = 13, false }, true},
		{"not pegged out by the shorter one", func(g *api.Game) { g.Points[1], g.In[1] = 7, false }, false},
	})
}

// P5.1: balls in play, pegged out and dead.
func TestCheckBalls(t *testing.T) {
	checkChanges(t, turnOf(api.CodeAssociation), []change{
		{"a ball that is pegged out", func(g *api.Game) { g.Points[1], g.In[1] = 13, false }, true},
		{"a ball that is pegged out, and in play", func(g *api.Game) { g.Points[1] = 13 }, false},
		{"a ball with points that is not in play", func(g *api.Game) { g.In[1] = false }, false},
		{"a ball that was never in play, too late", func(g *api.Game) { g.Points[1], g.In[1] = 0, false }, false},
		{"all others dead", dead(1, 2, 3), true},
		{"the striker's ball dead", dead(0), false},
		{"a dead ball that is pegged out", func(g *api.Game) { g.Points[1], g.In[1], g.Dead[1] = 13, false, true }, false},
	})
	checkChanges(t, with(turnOf(api.CodeAssociation), func(g *api.Game) {
		g.Turns, g.In, g.Points, g.Began = 3, [4]bool{true, true, true}, [4]int{1, 2, 3}, 1
	}), []change{
		{"a ball dead that was never in play", dead(3), false},
		{"the others dead", dead(1, 2), true},
		{"the other ball of the side 1 in play", func(g *api.Game) { g.In, g.Points[1] = [4]bool{true, false, true, true}, 0 }, true},
		{"three balls, and only one of the side 0", func(g *api.Game) { g.In, g.Points[2] = [4]bool{true, true, false, true}, 0 }, false},
		{"one of them pegged out", func(g *api.Game) { g.Points[2], g.In[2] = 13, false }, true},
		{"a ball too few", func(g *api.Game) { g.Points[1], g.In[1] = 0, false }, false},
		{"a ball too many", func(g *api.Game) { g.In[3] = true }, false},
		{"two turns", func(g *api.Game) { g.Turns = 2 }, false},
		{"four turns", func(g *api.Game) { g.Turns = 4 }, false},
		{"a ball pegged out too many", func(g *api.Game) { g.Points[3] = 13 }, false},
	})
}

// P5.1: the first turns, each before it begins.
func TestCheckFirstTurns(t *testing.T) {
	for turns, in := range map[int][][4]bool{
		0: {{}},
		1: {{true}, {false, false, true}},
		2: {{true, true}, {true, false, false, true}, {false, true, true}, {false, false, true, true}},
		3: {{true, true, true}, {true, false, true, true}},
		4: {all},
		5: {all},
	} {
		for n := range 16 {
			has := [4]bool{n&1 > 0, n&2 > 0, n&4 > 0, n&8 > 0}
			want := api.ErrArg
			for _, x := range in {
				if x == has {
					want = api.OK
				}
			}
			g := mustNew(t, api.CodeAssociation, [2]int{})
			g.Turns, g.Side, g.In = turns, turns%2, has
			if e := game.Check(g); e != want {
				t.Errorf("Check(%v): error %d, want %d", g, e, want)
			}
		}
	}
}

// P5.1: a game is over just if both balls of one side are pegged out.
func TestCheckWinner(t *testing.T) {
	over := with(turnOf(api.CodeAdvanced), func(g *api.Game) {
		g.Points, g.In, g.Lift = [4]int{13, 4, 13, 13}, [4]bool{false, true}, [2]bool{true, false}
	}, won(0))
	checkChanges(t, over, []change{
		{"the other winner", func(g *api.Game) { g.Winner = 1 }, false},
		{"no winner", func(g *api.Game) { g.Winner = -1 }, false},
		{"the winner 2", func(g *api.Game) { g.Winner = 2 }, false},
		{"another phase", func(g *api.Game) { g.Phase, g.Side = api.PhaseStart, 1 }, false},
		{"another phase, without winner", func(g *api.Game) { g.Phase, g.Side, g.Winner = api.PhaseStart, 1, -1 }, false},
		{"both sides pegged out", func(g *api.Game) { g.Points[1], g.In[1] = 13, false }, false},
		{"a ball still in play", func(g *api.Game) { g.Points[2], g.In[2] = 12, true }, false},
		{"the other side", func(g *api.Game) { g.Side = 1 }, true},
		{"one turn more", func(g *api.Game) { g.Turns++ }, true},
		{"three turns", func(g *api.Game) { g.Turns, g.Points[1], g.In[1] = 3, 0, false }, true},
		{"three turns, and the ball 3 in play", func(g *api.Game) {
			g.Turns, g.Points, g.In = 3, [4]int{13, 0, 13, 0}, [4]bool{false, false, false, true}
		}, true},
		{"two turns", func(g *api.Game) { g.Turns, g.Points, g.In = 2, [4]int{13, 0, 13, 0}, [4]bool{} }, false},
		{"the striker's ball", func(g *api.Game) { g.Ball = 1 }, false},
		{"the ball taken", func(g *api.Game) { g.Taken = 1 }, false},
		{"a dead ball", dead(1), false},
		{"a beginning", func(g *api.Game) { g.Began = 1 }, false},
		{"the ball last", func(g *api.Game) { g.Last = 1 }, false},
	})
	checkChanges(t, with(over, func(g *api.Game) { g.Code, g.Lift, g.Halves = api.CodeShort, [2]bool{}, [2]int{2, 1} }), []change{
		{"a half bisque", halved, false},
		{"the ball last", func(g *api.Game) { g.Last, g.Side = 1, 0 }, false},
	})
	checkChanges(t, turnOf(api.CodeAdvanced), []change{
		{"a winner", func(g *api.Game) { g.Winner = 0 }, false},
		{"the winner -2", func(g *api.Game) { g.Winner = -2 }, false},
		{"a game that is over, in another phase", func(g *api.Game) { g.Points[1], g.Points[3], g.In[1], g.In[3] = 13, 13, false, false }, false},
		{"a game that is not over, in its phase", func(g *api.Game) { g.Phase, g.Ball, g.Began = api.PhaseOver, -1, 0 }, false},
	})
}

// P5.1: what is left between two turns.
func TestCheckStart(t *testing.T) {
	checkChanges(t, with(turnOf(api.CodeAssociation), bisques, ended(0)), []change{
		{"no ball last", func(g *api.Game) { g.Last = -1 }, true},
		{"the other ball last", func(g *api.Game) { g.Last = 2 }, true},
		{"a ball of the side last", func(g *api.Game) { g.Last = 1 }, false},
		{"the ball 4 last", func(g *api.Game) { g.Last = 4 }, false},
		{"the ball -2 last", func(g *api.Game) { g.Last = -2 }, false},
		{"a far ball last", func(g *api.Game) { g.Last = math.MaxInt - 1 }, false},
		{"the ball last pegged out", func(g *api.Game) { g.Points[0], g.In[0] = 13, false }, false},
		{"no bisques", func(g *api.Game) { g.Code, g.Halves = api.CodeAdvanced, [2]int{} }, false},
		{"no bisques, and no ball last", func(g *api.Game) { g.Code, g.Halves, g.Last = api.CodeAdvanced, [2]int{}, -1 }, true},
		{"four turns", func(g *api.Game) { g.Turns = 4 }, true},
		{"three turns", func(g *api.Game) { g.Turns, g.Points[3], g.In[3] = 3, 0, false }, false},
		{"three turns, and no ball last", func(g *api.Game) { g.Turns, g.Points[3], g.In[3], g.Last = 3, 0, false, -1 }, true},
		{"the striker's ball", func(g *api.Game) { g.Ball = 1 }, false},
		{"the striker's ball 0", func(g *api.Game) { g.Ball = 0 }, false},
		{"the ball taken", func(g *api.Game) { g.Taken = 0 }, false},
		{"a dead ball", dead(2), false},
		{"a half bisque", halved, false},
		{"a beginning", func(g *api.Game) { g.Began = 1 }, false},
	})
}

// P5.1: what there has to be in a turn.
func TestCheckTurn(t *testing.T) {
	for _, phase := range []int{api.PhaseStroke, api.PhaseContinue} {
		checkChanges(t, with(turnOf(api.CodeAssociation), bisques, func(g *api.Game) { g.Phase = phase }), []change{
			{"the other ball", func(g *api.Game) { g.Ball = 2 }, true},
			{"a ball of the other side", func(g *api.Game) { g.Ball = 1 }, false},
			{"no ball", func(g *api.Game) { g.Ball = -1 }, false},
			{"the ball -2", func(g *api.Game) { g.Ball = -2 }, false},
			{"the ball 4", func(g *api.Game) { g.Ball = 4 }, false},
			{"a ball that is pegged out", func(g *api.Game) { g.Points[0], g.In[0] = 13, false }, false},
			{"began at the start", func(g *api.Game) { g.Began = 0 }, true},
			{"began below 0", func(g *api.Game) { g.Began = -1 }, false},
			{"began later", func(g *api.Game) { g.Began = 3 }, false},
			{"the ball last", func(g *api.Game) { g.Last = 1 }, false},
			{"a ball taken", func(g *api.Game) { g.Taken = 1 }, false},
			{"a ball -2 taken", func(g *api.Game) { g.Taken = -2 }, false},
			{"a half bisque", halved, true},
			{"the other side, by a bisque", func(g *api.Game) { g.Turns++ }, true},
		})
	}
	checkChanges(t, with(turnOf(api.CodeAssociation), croquetOf(1), dead(2)), []change{
		{"no ball taken", func(g *api.Game) { g.Taken = -1 }, false},
		{"the ball -2 taken", func(g *api.Game) { g.Taken = -2 }, false},
		{"the ball 4 taken", func(g *api.Game) { g.Taken = 4 }, false},
		{"the partner taken", func(g *api.Game) { g.Taken, g.Dead[2] = 2, false }, true},
		{"a dead ball taken", func(g *api.Game) { g.Taken = 2 }, false},
		{"the striker's ball taken", func(g *api.Game) { g.Taken = 0 }, false},
		{"a ball that is pegged out taken", func(g *api.Game) { g.Points[1], g.In[1] = 13, false }, false},
		{"the ball last", func(g *api.Game) { g.Last = 1 }, false},
		{"began later", func(g *api.Game) { g.Began = 3 }, false},
		{"a ball of the other side", func(g *api.Game) { g.Ball = 3 }, false},
		{"another phase", func(g *api.Game) { g.Phase = api.PhaseContinue }, false},
	})
}

// P5.1: the sides take turns strictly, where there are no bisques, and in the first turns.
func TestCheckSide(t *testing.T) {
	for code := range 4 {
		strict := !modelLaws[code].Bisques
		inTurn := turnOf(code)
		checkChanges(t, inTurn, []change{
			{"the other side", func(g *api.Game) { g.Side, g.Ball, g.Began = 1, 1, 3 }, !strict},
			{"a turn more", func(g *api.Game) { g.Turns++ }, !strict},
			{"two turns more", func(g *api.Game) { g.Turns += 2 }, true},
			{"four turns", func(g *api.Game) { g.Turns = 4 }, !strict},
			{"croquet, and the other side", func(g *api.Game) { g.Side, g.Ball, g.Began, g.Phase, g.Taken = 1, 1, 3, api.PhaseCroquet, 0 }, !strict},
			{"three turns", func(g *api.Game) { g.Turns, g.Points[3], g.In[3] = 3, 0, false }, true},
			{"three turns, the other side", func(g *api.Game) { g.Turns, g.Points[3], g.In[3], g.Side, g.Ball = 3, 0, false, 1, 1 }, false},
			{"three turns, the other side goes on", func(g *api.Game) {
				g.Turns, g.Points[3], g.In[3], g.Side, g.Ball, g.Phase = 3, 0, false, 1, 1, api.PhaseContinue
			}, false},
		})
		checkChanges(t, with(inTurn, ended(none)), []change{
			{"the other side", func(g *api.Game) { g.Side = 0 }, !strict},
			{"a turn more", func(g *api.Game) { g.Turns++ }, !strict},
			{"three turns", func(g *api.Game) { g.Turns, g.Points[3], g.In[3] = 3, 0, false }, true},
			{"three turns, the other side", func(g *api.Game) { g.Turns, g.Points[3], g.In[3], g.Side = 3, 0, false, 0 }, false},
		})
	}
}

// P5.1: legal positions of all kinds, and what comes of them when a number or two are changed.
func TestCheckOfAll(t *testing.T) {
	r := dice(51)
	seen := map[bool]int{}
	for range 60000 {
		g := anyGame(r)
		if e := game.Check(g); e != api.OK {
			t.Fatalf("Check(%v): error %d", g, e)
		}
		for range 1 + r.Intn(2) {
			g = spoilt(r, g)
		}
		want := api.ErrArg
		if modelLegal(g) {
			want = api.OK
		}
		seen[want == api.OK]++
		if e := game.Check(g); e != want {
			t.Fatalf("Check(%v): error %d, want %d", g, e, want)
		}
	}
	if seen[true] < 3000 || seen[false] < 3000 {
		t.Errorf("%v are legal", seen)
	}
}
