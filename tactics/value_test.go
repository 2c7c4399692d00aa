package tactics_test

import (
	"slices"
	"testing"

	"roquet/api"
	"roquet/tactics"
)

// P9.5, P9.6: without an act the value is 0, there is nothing to do, and the plan is empty.
func TestStop(t *testing.T) {
	for _, s := range []api.Scene{scene(1, 1), scene(0, 1, 0), dead(scene(0, 1, 0, 1), 1)} {
		if v := mustValue(t, exampleBoard(), s); v != (api.Chance{}) {
			t.Errorf("Value(%v): %v", s, v)
		}
		checkBest(t, "no act", exampleBoard(), s, api.Act{Kind: api.ActStop}, api.Chance{})
		checkPlan(t, "no act", exampleBoard(), s)
	}
}

// P9.5: values are rounded at each act, the lower bound down and the upper one up.
func TestRounded(t *testing.T) {
	b := api.Board{Wide: 1, Long: 1, Hoops: []int{0, 0, 0}, Run: edges(bounds(333333, 666667), sure(0), sure(0)), Hit: edges(bounds(700000, 800000), sure(0), sure(0))}
	for _, x := range []struct {
		s    api.Scene
		want api.Chance
	}{
		{scene(0, 3), bounds(0, 0)},
		{scene(0, 2), bounds(333333, 666667)},
		{scene(0, 1), bounds(444443, 1111112)}, // 333,333 by 1,333,333, and 666,667 by 1,666,667
		{scene(0, 0), bounds(481480, 1407409)}, // 333,333 by 1,444,443, and 666,667 by 2,111,112
	} {
		if v := mustValue(t, b, x.s); v != x.want {
			t.Errorf("Value(%v): %v, want %v", x.s, v, x.want)
		}
	}
	if v := mustWorth(t, b, scene(0, 1, 0), roquet(0, 0, 0)); v != bounds(311110, 888890) {
		t.Errorf("Worth of a roquet: %v", v)
	}
}

// P9.5: both bounds of a value may be those of two acts.
func TestTwoActs(t *testing.T) {
	b := api.Board{Wide: 2, Long: 1, Hoops: []int{1}, Run: edges(bounds(600000, whole), sure(500000), sure(0)), Hit: edges(bounds(900000, 950000), sure(0), sure(0))}
	s := scene(0, 0, 0)
	if v := mustWorth(t, b, s, runAct()); v != sure(500000) {
		t.Errorf("Worth of the run: %v", v)
	}
	if v := mustWorth(t, b, s, roquet(0, 1, 1)); v != bounds(540000, 950000) {
		t.Errorf("Worth of the roquet: %v", v)
	}
	b.Hit[0] = bounds(700000, 950000)
	if v := mustValue(t, b, s); v != bounds(500000, 950000) {
		t.Errorf("Value: %v", v)
	}
	checkBest(t, "the greatest Lo, not Hi", b, s, runAct(), sure(500000))
}

// P9.6: of equal acts the first one is best, also if only rounding makes them equal.
func TestFirstBest(t *testing.T) {
	b := api.Board{Wide: 3, Long: 1, Hoops: []int{2}, Run: edges(sure(whole), sure(whole), sure(0)), Hit: edges(sure(whole), sure(whole), sure(whole))}
	checkBest(t, "the first cell from which it is sure", b, scene(0, 0, 0), roquet(0, 0, 1), sure(whole))
	checkBest(t, "with both balls", b, scene(0, 0, 0, 1), roquet(0, 0, 0), sure(whole))
	checkBest(t, "with the ball 1", b, dead(scene(0, 0, 0, 1), 0), roquet(1, 0, 1), sure(whole))
	checkBest(t, "to run it comes first", b, scene(1, 0, 0, 1), runAct(), sure(whole))
	b.Run, b.Hit = edges(sure(5), sure(3), sure(2)), edges(sure(300000), sure(300000), sure(300000))
	checkBest(t, "5, 3 or 2 by 300,000 is 1, 0 and 0", b, scene(0, 0, 0), runAct(), sure(2))
	b.Run = edges(sure(6), sure(5), sure(0))
	checkBest(t, "6 or 5 by 300,000 is 1", b, scene(0, 0, 0), roquet(0, 0, 1), bounds(1, 2))
	if v := mustValue(t, b, scene(0, 0, 0)); v != bounds(1, 2) {
		t.Errorf("Value: %v", v)
	}
	b.Run, b.Hit = edges(sure(0), sure(0), sure(0)), edges(sure(0), sure(0), sure(0))
	checkBest(t, "nothing is worth anything", b, scene(0, 0, 0, 1), runAct(), sure(0))
	checkPlan(t, "nothing is worth anything", b, scene(0, 0, 0, 1), runAct())
}

// P9.6: the longest plan there may be: as all balls are hit surely, and from everywhere, each one is hit on the way to each hoop.
func TestLongestPlan(t *testing.T) {
	b := api.Board{Wide: 3, Long: 1, Hoops: []int{1, 2, 1, 2, 1, 2}, Run: edges(sure(whole), sure(0), sure(0)), Hit: edges(sure(whole), sure(whole), sure(whole))}
	s := scene(0, 0, 2, 2)
	one, two := []api.Act{roquet(0, 0, 0), roquet(1, 0, 1), runAct()}, []api.Act{roquet(0, 0, 0), roquet(1, 0, 2), runAct()}
	checkPlan(t, "the longest", b, s, slices.Concat(one, two, one, two, one, two)...)
	if v := mustValue(t, b, s); v != sure(6*whole) {
		t.Errorf("Value: %v", v)
	}
	checkPlan(t, "one ball is dead", b, dead(s, 1), slices.Concat([]api.Act{roquet(0, 0, 1), runAct()}, two, one, two, one, two)...)
	checkPlan(t, "from the fifth hoop on", b, scene(1, 4, 0, 0), slices.Concat([]api.Act{runAct()}, two)...)
}

// P9.7: the least Hi, and the first one of equal ones.
func TestLeave(t *testing.T) {
	b := exampleBoard()
	b.Run = edges(bounds(100000, 900000), bounds(400000, 500000), sure(0))
	b.Hit = edges(sure(0), sure(0), sure(0))
	near, away, done := scene(1, 0), scene(0, 0, 1), scene(0, 1)
	checkLeave(t, "one", b, []api.Scene{near}, 0, bounds(100000, 900000))
	checkLeave(t, "the least Hi, not Lo", b, []api.Scene{near, away}, 1, bounds(400000, 500000))
	checkLeave(t, "the least Hi, not Lo, the other way round", b, []api.Scene{away, near}, 0, bounds(400000, 500000))
	checkLeave(t, "the first one", b, []api.Scene{near, away, near, away, scene(0, 0)}, 1, bounds(400000, 500000))
	checkLeave(t, "no hoop is left", b, []api.Scene{near, away, done, done}, 2, sure(0))
	checkLeave(t, "as many as may be", b, append(slices.Repeat([]api.Scene{near}, api.MaxLeaves-1), away), api.MaxLeaves-1, bounds(400000, 500000))
	// A ball that is not there is not one in the first cell.
	b = exampleBoard()
	s, none := scene(0, 0, 0), scene(0, 0)
	checkLeave(t, "a ball in the first cell", b, []api.Scene{s, none}, 1, sure(500000))
	checkLeave(t, "no ball", b, []api.Scene{none, s}, 0, sure(500000))
	checkLeave(t, "a second ball", b, []api.Scene{scene(0, 0, 1, 0), scene(0, 0, 1)}, 1, sure(720000))
}

// checkSearches fails if a search from a scene does not find what the model finds.
func checkSearches(t *testing.T, m model, s api.Scene) {
	t.Helper()
	if v := mustValue(t, m.b, s); v != m.value(s) {
		t.Errorf("Value(%v, %v): %v, want %v", m.b, s, v, m.value(s))
	}
	a, v := m.best(s)
	checkBest(t, "any", m.b, s, a, v)
	checkPlan(t, "any", m.b, s, m.plan(s)...)
}

// P9.5, P9.6: what is found from any scenes of boards with few cells.
func TestSearchesOfAll(t *testing.T) {
	r := dice(906)
	for range 300 {
		b := anyBoard(r, 2, api.MaxRuns)
		m := newModel(b)
		for range 8 {
			s := anyScene(r, b)
			checkSearches(t, m, s)
			for _, a := range mustActs(t, b, s) {
				if v := mustWorth(t, b, s, a); v != m.worth(s, a) {
					t.Errorf("Worth(%v, %v, %v): %v, want %v", b, s, a, v, m.worth(s, a))
				}
			}
		}
	}
}

// P9.5, P9.6: the same with more cells.
func TestSearchesOfMoreCells(t *testing.T) {
	r := dice(907)
	for range 12 {
		b := anyBoard(r, api.MaxEdge, 2)
		m := newModel(b)
		for range 4 {
			s := anyScene(r, b)
			checkSearches(t, m, s)
			l := mustActs(t, b, s)
			for range min(10, len(l)) {
				a := l[r.Intn(len(l))]
				if v := mustWorth(t, b, s, a); v != m.worth(s, a) {
					t.Errorf("Worth(%v, %v, %v): %v, want %v", b, s, a, v, m.worth(s, a))
				}
			}
		}
	}
}

// P9.5, P9.6: the same for the longest break of the full board.
func TestSearchesOfTheFullBoard(t *testing.T) {
	checkSearches(t, newModel(fullBoard()), fullScene())
}

// P9.7: the best leave of any scenes.
func TestLeaveOfAll(t *testing.T) {
	r := dice(908)
	for range 300 {
		b := anyBoard(r, 2, 4)
		m := newModel(b)
		var l []api.Scene
		for range 1 + r.Intn(12) {
			l = append(l, anyScene(r, b))
		}
		i, v := m.leave(l)
		checkLeave(t, "any", b, l, i, v)
	}
}

// R10: equal calls return equal results.
func TestAgain(t *testing.T) {
	b, s := fullBoard(), fullScene()
	plan, value := mustPlan(t, b, s), mustValue(t, b, s)
	for range 5 {
		checkPlan(t, "again", b, s, plan...)
		if v, e := tactics.Value(b, s); v != value || e != api.OK {
			t.Errorf("Value again: %v, error %d, want %v", v, e, value)
		}
	}
}
