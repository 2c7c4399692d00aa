package mistake_test

import (
	"math"
	"math/rand"
	"reflect"
	"slices"
	"testing"

	"roquet/api"
	"roquet/game"
	"roquet/mistake"
)

const none = api.NoBall

// far are numbers that nothing has.
var far = []int{math.MinInt, -1, 4, 5, 100, math.MaxInt}

// dice returns a source of numbers that are the same at each run.
func dice(seed int64) *rand.Rand { return rand.New(rand.NewSource(seed)) }

// among returns one of some things.
func among[T any](r *rand.Rand, l ...T) T { return l[r.Intn(len(l))] }

// The events, moves and deeds.

func event(kind, ball int) api.Event { return api.Event{Kind: kind, Ball: ball} }
func hit(ball int) api.Event         { return event(api.EventHit, ball) }
func hoop(ball int) api.Event        { return event(api.EventHoop, ball) }
func peg(ball int) api.Event         { return event(api.EventPeg, ball) }
func off(ball int) api.Event         { return event(api.EventOff, ball) }
func fault() api.Event               { return event(api.EventFault, 0) }

func moved(m api.Move) api.Deed { return api.Deed{Kind: api.DeedMove, Move: m} }
func choose(ball int) api.Deed  { return moved(api.Move{Kind: api.MoveChoose, Ball: ball}) }
func pass() api.Deed            { return moved(api.Move{Kind: api.MovePass}) }
func bisque(ball int) api.Deed  { return moved(api.Move{Kind: api.MoveBisque, Ball: ball}) }
func half(ball int) api.Deed    { return moved(api.Move{Kind: api.MoveHalf, Ball: ball}) }
func claim(about int) api.Deed  { return api.Deed{Kind: api.DeedClaim, About: about} }

func strike(l ...api.Event) api.Deed {
	return moved(api.Move{Kind: api.MoveStroke, Events: l})
}

func wrong(kind, ball int, l ...api.Event) api.Deed {
	return api.Deed{Kind: api.DeedWrong, Wrong: kind, Ball: ball, Events: l}
}

func otherBall(ball int, l ...api.Event) api.Deed   { return wrong(api.WrongBall, ball, l...) }
func outOfTurn(ball int, l ...api.Event) api.Deed   { return wrong(api.WrongTurn, ball, l...) }
func notRoqueted(ball int, l ...api.Event) api.Deed { return wrong(api.WrongCroquet, ball, l...) }

// join returns the deeds of some lists, one behind another.
func join(l ...[]api.Deed) []api.Deed { return slices.Concat(l...) }

// deeds returns a list of deeds.
func deeds(l ...api.Deed) []api.Deed { return l }

// times returns a deed several times.
func times(n int, d api.Deed) []api.Deed { return slices.Repeat([]api.Deed{d}, n) }

// with returns a position after a change of it.
func with(g api.Game, changes ...func(*api.Game)) api.Game {
	for _, change := range changes {
		change(&g)
	}
	return g
}

// all is for all four balls.
var all = [4]bool{true, true, true, true}

// turnOf returns a position in a turn, the fifth one, of the ball 0; all balls have run some hoops.
func turnOf(code int) api.Game {
	return api.Game{
		Code: code, Phase: api.PhaseStroke, Ball: 0, Taken: none, Points: [4]int{2, 3, 4, 5}, In: all,
		Turns: 5, Began: 1, Last: none, Winner: -1,
	}
}

// startOf returns the position between the fifth turn, that of the ball 0, and the sixth one.
func startOf(code int) api.Game {
	g := with(turnOf(code), func(g *api.Game) { g.Phase, g.Side, g.Ball, g.Began = api.PhaseStart, 1, none, 0 })
	if game.Check(g) != api.OK {
		panic("not legal")
	}
	return g
}

// goesOn is a change by which the turn goes on with a continuation stroke.
func goesOn(g *api.Game) { g.Phase, g.Taken = api.PhaseContinue, none }

// goesOnOf returns a change by which a turn with a ball goes on, after so many turns.
func goesOnOf(ball, turns int) func(*api.Game) {
	return func(g *api.Game) {
		g.Phase, g.Side, g.Ball, g.Last, g.Turns = api.PhaseContinue, ball%2, ball, none, turns
	}
}

// points returns a change of the points.
func points(p ...int) func(*api.Game) { return func(g *api.Game) { g.Points = [4]int(p) } }

// began returns a change of the points with which the turn began.
func began(n int) func(*api.Game) { return func(g *api.Game) { g.Began = n } }

// croquetOf returns a change by which croquet is to be taken of a ball.
func croquetOf(ball int) func(*api.Game) {
	return func(g *api.Game) { g.Phase, g.Taken = api.PhaseCroquet, ball }
}

// dead returns a change by which balls are dead.
func dead(balls ...int) func(*api.Game) {
	return func(g *api.Game) {
		for _, ball := range balls {
			g.Dead[ball] = true
		}
	}
}

// peggedOut returns a change by which a ball is pegged out.
func peggedOut(ball int) func(*api.Game) {
	return func(g *api.Game) { g.Points[ball], g.In[ball], g.Dead[ball] = api.PeggedOut, false, false }
}

// ended returns a change by which the turn has ended, and a bisque can be taken with the ball last, or with none.
func ended(last int) func(*api.Game) {
	return func(g *api.Game) {
		g.Phase, g.Side, g.Ball, g.Taken, g.Last = api.PhaseStart, 1-g.Side, none, none, last
		g.Dead, g.Half, g.Began = [4]bool{}, false, 0
	}
}

// mustPlay returns the position after moves.
func mustPlay(t *testing.T, g api.Game, l ...api.Deed) api.Game {
	t.Helper()
	for _, d := range l {
		next, e := game.Play(g, d.Move)
		if e != api.OK {
			t.Fatalf("Play(%v, %v): error %d", g, d.Move, e)
		}
		g = next
	}
	return g
}

// mustReplay returns what a record comes to.
func mustReplay(t *testing.T, g api.Game, l []api.Deed) api.Outcome {
	t.Helper()
	o, n, e := mistake.Replay(g, l)
	if n != len(l) || e != api.OK {
		t.Fatalf("Replay(%v, %v): %d, error %d", g, l, n, e)
	}
	return o
}

// mustClean returns the clean record.
func mustClean(t *testing.T, g api.Game, l []api.Deed) []api.Deed {
	t.Helper()
	c, e := mistake.Clean(g, l)
	if e != api.OK {
		t.Fatalf("Clean(%v, %v): error %d", g, l, e)
	}
	return c
}

// fourTurns returns the position behind the first four turns.
func fourTurns(t *testing.T, code int, halves [2]int) api.Game {
	t.Helper()
	g, e := game.New(code, halves)
	if e != api.OK {
		t.Fatalf("New(%d, %v): error %d", code, halves, e)
	}
	for ball := range api.Balls {
		g = mustPlay(t, g, choose(ball), strike())
	}
	return g
}

// sameDeeds reports whether two lists of deeds are the same; nil lists and empty ones are.
func sameDeeds(a, b []api.Deed) bool {
	return slices.EqualFunc(a, b, func(x, y api.Deed) bool {
		return slices.Equal(x.Events, y.Events) && slices.Equal(x.Move.Events, y.Move.Events) &&
			reflect.DeepEqual(bare(x), bare(y))
	})
}

// bare returns a deed without its events.
func bare(d api.Deed) api.Deed {
	d.Events, d.Move.Events = nil, nil
	return d
}

// copyOf returns a copy of deeds in other memory.
func copyOf(l []api.Deed) []api.Deed {
	c := slices.Clone(l)
	for i := range c {
		c[i].Events = slices.Clone(c[i].Events)
		c[i].Move.Events = slices.Clone(c[i].Move.Events)
	}
	return c
}

// sameOutcome reports whether two outcomes are the same; nil lists and empty ones are.
func sameOutcome(a, b api.Outcome) bool {
	return a.Game == b.Game && slices.Equal(a.Stands, b.Stands) && slices.Equal(a.Rulings, b.Rulings)
}

// isNothing reports whether an outcome has its zero value.
func isNothing(o api.Outcome) bool { return sameOutcome(o, api.Outcome{}) }
