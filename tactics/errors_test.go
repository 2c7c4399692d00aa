package tactics_test

import (
	"slices"
	"testing"

	"roquet/api"
	"roquet/tactics"
)

// refused checks that all functions with one scene return an error, and nothing else, whether the act is one or not.
func refused(t *testing.T, b api.Board, s api.Scene, want api.Errno) {
	t.Helper()
	if l, e := tactics.Acts(b, s); len(l) > 0 || e != want {
		t.Errorf("Acts(%v, %v): %v, error %d, want %d", b, s, l, e, want)
	}
	for _, a := range []api.Act{runAct(), roquet(0, 0, 0), {}, {Kind: 9, Ball: 9, Send: -1, To: -1}} {
		if next, e := tactics.After(b, s, a); !sameScene(next, api.Scene{}) || e != want {
			t.Errorf("After(%v, %v, %v): %v, error %d, want %d", b, s, a, next, e, want)
		}
		if v, e := tactics.Worth(b, s, a); v != (api.Chance{}) || e != want {
			t.Errorf("Worth(%v, %v, %v): %v, error %d, want %d", b, s, a, v, e, want)
		}
	}
	if v, e := tactics.Value(b, s); v != (api.Chance{}) || e != want {
		t.Errorf("Value(%v, %v): %v, error %d, want %d", b, s, v, e, want)
	}
	if a, v, e := tactics.Best(b, s); a != (api.Act{}) || v != (api.Chance{}) || e != want {
		t.Errorf("Best(%v, %v): %v, %v, error %d, want %d", b, s, a, v, e, want)
	}
	if l, e := tactics.Plan(b, s); len(l) > 0 || e != want {
		t.Errorf("Plan(%v, %v): %v, error %d, want %d", b, s, l, e, want)
	}
}

// refusedLeave checks that Leave returns an error, and nothing else.
func refusedLeave(t *testing.T, b api.Board, l []api.Scene, want api.Errno) {
	t.Helper()
	if i, v, e := tactics.Leave(b, l); i != 0 || v != (api.Chance{}) || e != want {
		t.Errorf("Leave(%v, %v): %d, %v, error %d, want %d", b, l, i, v, e, want)
	}
}

// P9.4, P9.5, P9.6, P9.7: a board that is not valid comes before all.
func TestBoardErrors(t *testing.T) {
	for _, b := range badBoards() {
		for _, s := range []api.Scene{{}, scene(0, 0, 0), scene(-1, 9, 9, 9, 9)} {
			refused(t, b, s, api.ErrArg)
			refusedLeave(t, b, []api.Scene{s}, api.ErrArg)
			refusedLeave(t, b, slices.Repeat([]api.Scene{s}, api.MaxLeaves+1), api.ErrArg)
		}
		refusedLeave(t, b, nil, api.ErrArg)
	}
}

// P9.4, P9.5, P9.6, P9.7: then a scene that is not valid, also where there is no such act.
func TestSceneErrors(t *testing.T) {
	b := changed(func(*api.Board) {})
	good := scene(0, 0, 1)
	for _, s := range badScenes() {
		refused(t, b, s, api.ErrRange)
		for _, l := range [][]api.Scene{{s}, {good, s}, {s, good, good}, append(slices.Repeat([]api.Scene{good}, api.MaxLeaves-1), s)} {
			refusedLeave(t, b, l, api.ErrRange)
		}
	}
}

// P9.7: no leaves, and too many; these errors come before those of the scenes.
func TestLeaveErrors(t *testing.T) {
	b := changed(func(*api.Board) {})
	refusedLeave(t, b, nil, api.ErrNone)
	refusedLeave(t, b, []api.Scene{}, api.ErrNone)
	for _, s := range []api.Scene{scene(0, 0), scene(-1, 0)} {
		refusedLeave(t, b, slices.Repeat([]api.Scene{s}, api.MaxLeaves+1), api.ErrMany)
		refusedLeave(t, b, slices.Repeat([]api.Scene{s}, 10000), api.ErrMany)
	}
}

// R5: no argument is changed, and each result is new memory.
func TestMemory(t *testing.T) {
	b, s := fullBoard(), dead(fullScene(), 1)
	o := copyScene(s)
	l := []api.Scene{copyScene(s), scene(0, 0, 1)}
	chances := []api.Chance{sure(5), bounds(3, 900000)}
	tactics.All(chances)
	tactics.Any(chances)
	tactics.Value(b, s)
	tactics.Best(b, s)
	tactics.Leave(b, l)
	for _, a := range []api.Act{runAct(), roquet(0, 7, 6)} {
		next := mustAfter(t, b, s, a)
		tactics.Worth(b, s, a)
		next.Balls[0], next.Balls[1], next.Dead[0], next.Dead[1] = 8, 8, true, false
		if again := mustAfter(t, b, s, a); sameScene(again, next) {
			t.Errorf("After(%v) was changed: %v", a, again)
		}
	}
	acts, plan := mustActs(t, b, s), mustPlan(t, b, s)
	keptActs, keptPlan := slices.Clone(acts), slices.Clone(plan)
	clear(acts)
	clear(plan)
	if again := mustActs(t, b, s); !slices.Equal(again, keptActs) {
		t.Errorf("Acts again: %v, want %v", again, keptActs)
	}
	checkPlan(t, "again", b, s, keptPlan...)
	if !sameScene(s, o) || !sameScene(l[0], o) || !sameScene(l[1], scene(0, 0, 1)) || !sameBoard(b, fullBoard()) ||
		!slices.Equal(chances, []api.Chance{sure(5), bounds(3, 900000)}) {
		t.Errorf("arguments were changed: %v, %v, %v, %v", b, s, l, chances)
	}
}
