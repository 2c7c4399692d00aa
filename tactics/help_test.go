package tactics_test

import (
	"math/rand"
	"reflect"
	"slices"
	"testing"

	"roquet/api"
	"roquet/tactics"
)

const whole = api.Million

// dice returns a source of numbers that are the same at each run.
func dice(seed int64) *rand.Rand { return rand.New(rand.NewSource(seed)) }

// from returns a number from a to b.
func from(r *rand.Rand, a, b int64) int64 { return a + r.Int63n(b-a+1) }

// bounds returns bounds.
func bounds(lo, hi int64) api.Chance { return api.Chance{Lo: lo, Hi: hi} }

// sure returns bounds that are one number.
func sure(n int64) api.Chance { return bounds(n, n) }

// edges returns the bounds for so many cells away.
func edges(none, one, two api.Chance) [api.MaxEdge]api.Chance {
	return [api.MaxEdge]api.Chance{none, one, two}
}

// runAct is the act of running a hoop.
func runAct() api.Act { return api.Act{Kind: api.ActRun} }

// roquet is the act of hitting a ball.
func roquet(ball, send, to int) api.Act {
	return api.Act{Kind: api.ActRoquet, Ball: ball, Send: send, To: to}
}

// scene returns a scene in which no ball is dead.
func scene(at, hoop int, balls ...int) api.Scene {
	return api.Scene{At: at, Hoop: hoop, Balls: balls, Dead: make([]bool, len(balls))}
}

// dead returns a scene in which a ball is dead, too.
func dead(s api.Scene, ball int) api.Scene {
	s.Dead = slices.Clone(s.Dead)
	s.Dead[ball] = true
	return s
}

// exampleBoard is that of the chapter's examples.
func exampleBoard() api.Board {
	return api.Board{
		Wide: 2, Long: 1, Hoops: []int{1},
		Run: edges(sure(900000), sure(500000), sure(0)),
		Hit: edges(sure(950000), sure(800000), sure(0)),
	}
}

// fullBoard is as great as a board may be.
func fullBoard() api.Board {
	return api.Board{
		Wide: 3, Long: 3, Hoops: []int{0, 8, 4, 2, 6, 1},
		Run: edges(bounds(900000, 950000), bounds(500000, 600000), bounds(100000, 200000)),
		Hit: edges(bounds(950000, 960000), bounds(800000, 850000), bounds(600000, 700000)),
	}
}

// fullScene is the beginning of the longest break on the full board.
func fullScene() api.Scene { return scene(0, 0, 3, 5) }

// anyBounds returns bounds of all kinds.
func anyBounds(r *rand.Rand) api.Chance {
	switch r.Intn(8) {
	case 0:
		return sure(0)
	case 1:
		return sure(whole)
	case 2:
		return bounds(0, whole)
	case 3:
		return sure(from(r, 0, whole))
	case 4:
		return bounds(from(r, 0, 3), from(r, 3, 9))
	case 5:
		return bounds(whole-from(r, 3, 9), whole-from(r, 0, 3))
	}
	lo := from(r, 0, whole)
	return bounds(lo, from(r, lo, whole))
}

// anyBoard returns a board with at most so many cells along an edge, and so many hoops.
func anyBoard(r *rand.Rand, edge, hoops int) api.Board {
	b := api.Board{Wide: 1 + r.Intn(edge), Long: 1 + r.Intn(edge)}
	for range 1 + r.Intn(hoops) {
		b.Hoops = append(b.Hoops, r.Intn(b.Wide*b.Long))
	}
	for i := range api.MaxEdge {
		b.Run[i], b.Hit[i] = anyBounds(r), anyBounds(r)
	}
	return b
}

// anyScene returns a scene of a board.
func anyScene(r *rand.Rand, b api.Board) api.Scene {
	cells := b.Wide * b.Long
	s := api.Scene{At: r.Intn(cells), Hoop: r.Intn(len(b.Hoops) + 1)}
	for range r.Intn(api.MaxPieces + 1) {
		s.Balls = append(s.Balls, r.Intn(cells))
		s.Dead = append(s.Dead, r.Intn(3) == 0)
	}
	return s
}

// copyBoard returns a board that shares no memory with another one.
func copyBoard(b api.Board) api.Board {
	b.Hoops = slices.Clone(b.Hoops)
	return b
}

// copyScene returns a scene that shares no memory with another one.
func copyScene(s api.Scene) api.Scene {
	s.Balls, s.Dead = slices.Clone(s.Balls), slices.Clone(s.Dead)
	return s
}

// sameScene reports whether two scenes are the same; a list that is empty is one that is nil.
func sameScene(s, o api.Scene) bool {
	return s.At == o.At && s.Hoop == o.Hoop && slices.Equal(s.Balls, o.Balls) && slices.Equal(s.Dead, o.Dead)
}

// sameBoard reports whether two boards are the same.
func sameBoard(b, c api.Board) bool { return reflect.DeepEqual(b, c) }

// mustActs returns the acts of a scene, and fails if there is an error.
func mustActs(t *testing.T, b api.Board, s api.Scene) []api.Act {
	t.Helper()
	l, e := tactics.Acts(b, s)
	if e != api.OK {
		t.Fatalf("Acts(%v, %v): error %d", b, s, e)
	}
	return l
}

// mustAfter returns the scene after an act, and fails if there is an error.
func mustAfter(t *testing.T, b api.Board, s api.Scene, a api.Act) api.Scene {
	t.Helper()
	next, e := tactics.After(b, s, a)
	if e != api.OK {
		t.Fatalf("After(%v, %v, %v): error %d", b, s, a, e)
	}
	return next
}

// mustValue returns the value of a scene, and fails if there is an error.
func mustValue(t *testing.T, b api.Board, s api.Scene) api.Chance {
	t.Helper()
	v, e := tactics.Value(b, s)
	if e != api.OK {
		t.Fatalf("Value(%v, %v): error %d", b, s, e)
	}
	return v
}

// mustWorth returns the value of an act, and fails if there is an error.
func mustWorth(t *testing.T, b api.Board, s api.Scene, a api.Act) api.Chance {
	t.Helper()
	v, e := tactics.Worth(b, s, a)
	if e != api.OK {
		t.Fatalf("Worth(%v, %v, %v): error %d", b, s, a, e)
	}
	return v
}

// mustPlan returns the plan from a scene, and fails if there is an error.
func mustPlan(t *testing.T, b api.Board, s api.Scene) []api.Act {
	t.Helper()
	l, e := tactics.Plan(b, s)
	if e != api.OK {
		t.Fatalf("Plan(%v, %v): error %d", b, s, e)
	}
	return l
}

// checkBest fails if the best act of a scene is not this one, with this value.
func checkBest(t *testing.T, name string, b api.Board, s api.Scene, want api.Act, worth api.Chance) {
	t.Helper()
	if a, v, e := tactics.Best(b, s); a != want || v != worth || e != api.OK {
		t.Errorf("%s: Best(%v, %v): %v, %v, error %d, want %v, %v", name, b, s, a, v, e, want, worth)
	}
}

// checkPlan fails if the plan from a scene is not this one.
func checkPlan(t *testing.T, name string, b api.Board, s api.Scene, want ...api.Act) {
	t.Helper()
	if l := mustPlan(t, b, s); !slices.Equal(l, want) {
		t.Errorf("%s: Plan(%v, %v): %v, want %v", name, b, s, l, want)
	}
}

// checkLeave fails if the best leave of some scenes is not this one, with this value.
func checkLeave(t *testing.T, name string, b api.Board, l []api.Scene, want int, value api.Chance) {
	t.Helper()
	if i, v, e := tactics.Leave(b, l); i != want || v != value || e != api.OK {
		t.Errorf("%s: Leave(%v, %v): %d, %v, error %d, want %d, %v", name, b, l, i, v, e, want, value)
	}
}
