package tactics_test

import (
	"math"
	"slices"
	"testing"

	"roquet/api"
	"roquet/tactics"
)

// P9.4: acts, in order.
func TestActs(t *testing.T) {
	b := exampleBoard()
	zero := []api.Act{roquet(0, 0, 0), roquet(0, 0, 1), roquet(0, 1, 0), roquet(0, 1, 1)}
	one := []api.Act{roquet(1, 0, 0), roquet(1, 0, 1), roquet(1, 1, 0), roquet(1, 1, 1)}
	run := []api.Act{runAct()}
	both := scene(0, 0, 1, 0)
	for _, x := range []struct {
		name string
		s    api.Scene
		want []api.Act
	}{
		{"no balls", scene(0, 0), run},
		{"one ball", scene(0, 0, 0), slices.Concat(run, zero)},
		{"one ball, elsewhere", scene(1, 0, 0), slices.Concat(run, zero)},
		{"one ball that is dead", dead(scene(0, 0, 0), 0), run},
		{"two balls", both, slices.Concat(run, zero, one)},
		{"two balls, the first one is dead", dead(both, 0), slices.Concat(run, one)},
		{"two balls, the second one is dead", dead(both, 1), slices.Concat(run, zero)},
		{"two balls that are dead", dead(dead(both, 0), 1), run},
		{"no hoop is left", scene(0, 1, 1, 0), nil},
	} {
		if l := mustActs(t, b, x.s); !slices.Equal(l, x.want) {
			t.Errorf("%s: Acts(%v): %v, want %v", x.name, x.s, l, x.want)
		}
	}
	if l := mustActs(t, fullBoard(), fullScene()); len(l) != 1+2*81 || l[1] != roquet(0, 0, 0) || l[81] != roquet(0, 8, 8) || l[162] != roquet(1, 8, 8) {
		t.Errorf("Acts of the full board: %d, %v", len(l), l)
	}
	if l := mustActs(t, api.Board{Wide: 1, Long: 1, Hoops: []int{0}}, scene(0, 0, 0)); !slices.Equal(l, []api.Act{runAct(), roquet(0, 0, 0)}) {
		t.Errorf("Acts of a board with one cell: %v", l)
	}
}

// P9.4: scenes after acts.
func TestAfter(t *testing.T) {
	b := fullBoard()
	tired := dead(dead(scene(3, 1, 4, 5), 0), 1)
	for _, x := range []struct {
		name    string
		s, want api.Scene
		a       api.Act
	}{
		{"a hoop", scene(3, 1), scene(8, 2), runAct()},
		{"the last hoop", scene(3, 5, 0), scene(1, 6, 0), runAct()},
		{"a hoop with dead balls", tired, scene(8, 2, 4, 5), runAct()},
		{"a hoop with one dead ball", dead(scene(3, 0, 4, 5), 1), scene(0, 1, 4, 5), runAct()},
		{"the ball 0", scene(3, 1, 4, 5), dead(scene(7, 1, 6, 5), 0), roquet(0, 6, 7)},
		{"the ball 1", scene(3, 1, 4, 5), dead(scene(0, 1, 4, 8), 1), roquet(1, 8, 0)},
		{"the ball 1 behind the ball 0", dead(scene(3, 1, 4, 5), 0), dead(dead(scene(2, 1, 4, 2), 0), 1), roquet(1, 2, 2)},
		{"nothing moves", scene(3, 0, 3), dead(scene(3, 0, 3), 0), roquet(0, 3, 3)},
	} {
		if s := mustAfter(t, b, x.s, x.a); !sameScene(s, x.want) {
			t.Errorf("%s: After(%v, %v): %v, want %v", x.name, x.s, x.a, s, x.want)
		}
	}
}

// P9.4: the acts of any scenes, and the scenes after them.
func TestAnyActs(t *testing.T) {
	r := dice(905)
	for range 400 {
		b := anyBoard(r, api.MaxEdge, api.MaxRuns)
		s := anyScene(r, b)
		m := newModel(b)
		l := mustActs(t, b, s)
		if want := m.acts(s); !slices.Equal(l, want) {
			t.Errorf("Acts(%v, %v): %v, want %v", b, s, l, want)
		}
		for _, a := range l {
			next := mustAfter(t, b, s, a)
			if want := m.after(s, a); !sameScene(next, want) || tactics.CheckScene(b, next) != api.OK {
				t.Errorf("After(%v, %v, %v): %v, want %v", b, s, a, next, want)
			}
		}
	}
}

// P9.4, P9.5: what is no act of a scene.
func TestNoAct(t *testing.T) {
	b := fullBoard()
	refused := func(s api.Scene, l ...api.Act) {
		t.Helper()
		for _, a := range l {
			if next, e := tactics.After(b, s, a); !sameScene(next, api.Scene{}) || e != api.ErrState {
				t.Errorf("After(%v, %v): %v, error %d, want ErrState", s, a, next, e)
			}
			if v, e := tactics.Worth(b, s, a); v != (api.Chance{}) || e != api.ErrState {
				t.Errorf("Worth(%v, %v): %v, error %d, want ErrState", s, a, v, e)
			}
		}
	}
	for _, s := range []api.Scene{scene(0, 0), scene(0, 5, 1), fullScene()} {
		refused(s, api.Act{}, api.Act{Kind: -1}, api.Act{Kind: 3}, api.Act{Kind: math.MaxInt}, api.Act{Kind: math.MinInt},
			api.Act{Kind: api.ActRun, Ball: 1}, api.Act{Kind: api.ActRun, Send: 1}, api.Act{Kind: api.ActRun, To: 1},
			roquet(2, 0, 0), roquet(-1, 0, 0), roquet(math.MaxInt, 0, 0), roquet(math.MinInt, 0, 0),
			roquet(0, 9, 0), roquet(0, 0, 9), roquet(0, -1, 0), roquet(0, 0, -1), roquet(0, math.MaxInt, 0), roquet(0, 0, math.MinInt))
	}
	refused(scene(0, 0), roquet(0, 0, 0))
	refused(scene(0, 0, 1), roquet(1, 0, 0))
	refused(dead(fullScene(), 0), roquet(0, 0, 0), roquet(0, 3, 3))
	refused(dead(fullScene(), 1), roquet(1, 0, 0), roquet(1, 5, 8))
	refused(scene(0, 6, 1), api.Act{}, runAct(), roquet(0, 0, 0))
}
