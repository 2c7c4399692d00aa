package game_test

import (
	"math"
	"math/rand"
	"reflect"
	"slices"
	"testing"

	"roquet/api"
	"roquet/game"
)

const none = api.NoBall

// dice returns a source of numbers that are the same at each run.
func dice(seed int64) *rand.Rand { return rand.New(rand.NewSource(seed)) }

// among returns one of some things.
func among[T any](r *rand.Rand, l ...T) T { return l[r.Intn(len(l))] }

// The moves.

func choose(ball int) api.Move           { return api.Move{Kind: api.MoveChoose, Ball: ball} }
func lift(ball int) api.Move             { return api.Move{Kind: api.MoveChoose, Ball: ball, Lift: true} }
func strike(l ...api.Event) api.Move     { return api.Move{Kind: api.MoveStroke, Events: l} }
func pass() api.Move                     { return api.Move{Kind: api.MovePass} }
func bisque(ball int) api.Move           { return api.Move{Kind: api.MoveBisque, Ball: ball} }
func half(ball int) api.Move             { return api.Move{Kind: api.MoveHalf, Ball: ball} }
func event(kind, ball int) api.Event     { return api.Event{Kind: kind, Ball: ball} }
func hit(ball int) api.Event             { return event(api.EventHit, ball) }
func hoop(ball int) api.Event            { return event(api.EventHoop, ball) }
func peg(ball int) api.Event             { return event(api.EventPeg, ball) }
func off(ball int) api.Event             { return event(api.EventOff, ball) }
func fault() api.Event                   { return event(api.EventFault, 0) }
func times(n int, m api.Move) []api.Move { return slices.Repeat([]api.Move{m}, n) }

// with returns a position after a change of it.
func with(g api.Game, changes ...func(*api.Game)) api.Game {
	for _, change := range changes {
		change(&g)
	}
	return g
}

// all is for all four balls.
var all = [4]bool{true, true, true, true}

// turnOf returns a position in a turn, the fifth one, of the ball 0; all balls have run some hoops.
func turnOf(code int) api.Game {
	return api.Game{
		Code: code, Phase: api.PhaseStroke, Ball: 0, Taken: none, Points: [4]int{2, 3, 4, 5}, In: all,
		Turns: 5, Began: 2, Last: none, Winner: -1,
	}
}

// bisques gives each side half bisques.
func bisques(g *api.Game) { g.Halves = [2]int{3, 2} }

// croquetOf returns a change by which croquet is to be taken of a ball.
func croquetOf(ball int) func(*api.Game) {
	return func(g *api.Game) { g.Phase, g.Taken = api.PhaseCroquet, ball }
}

// points returns a change of the points; the turn begins with those of the striker's ball. Balls with PeggedOut are out of play.
func points(p ...int) func(*api.Game) {
	return func(g *api.Game) {
		g.Points, g.Began = [4]int(p), 0
		for ball, n := range p {
			g.In[ball] = n != api.PeggedOut
		}
		if g.Ball != none {
			g.Began = p[g.Ball]
		}
	}
}

// dead returns a change by which balls are dead.
func dead(balls ...int) func(*api.Game) {
	return func(g *api.Game) {
		g.Dead = [4]bool{}
		for _, ball := range balls {
			g.Dead[ball] = true
		}
	}
}

// halved makes the turn a half bisque.
func halved(g *api.Game) { g.Half = true }

// goesOn is a change by which the turn goes on with a continuation stroke.
func goesOn(g *api.Game) { g.Phase, g.Taken = api.PhaseContinue, none }

// ended returns a change by which the turn has ended, and a bisque can be taken with the ball last, or with none.
func ended(last int) func(*api.Game) {
	return func(g *api.Game) {
		g.Phase, g.Side, g.Ball, g.Taken, g.Last = api.PhaseStart, 1-g.Side, none, none, last
		g.Dead, g.Half, g.Began = [4]bool{}, false, 0
	}
}

// won returns a change by which a side has won.
func won(side int) func(*api.Game) {
	return func(g *api.Game) {
		g.Phase, g.Winner, g.Ball, g.Taken, g.Last = api.PhaseOver, side, none, none, none
		g.Dead, g.Half, g.Began = [4]bool{}, false, 0
	}
}

// scored returns a change by which a ball has run its hoop.
func scored(ball int) func(*api.Game) { return func(g *api.Game) { g.Points[ball]++ } }

// peggedOut returns a change by which a ball is pegged out.
func peggedOut(ball int) func(*api.Game) {
	return func(g *api.Game) { g.Points[ball], g.In[ball], g.Dead[ball] = api.PeggedOut, false, false }
}

// mustNew returns a new position.
func mustNew(t *testing.T, code int, halves [2]int) api.Game {
	t.Helper()
	g, e := game.New(code, halves)
	if e != api.OK {
		t.Fatalf("New(%d, %v): error %d", code, halves, e)
	}
	return g
}

// mustPlay returns the position after moves.
func mustPlay(t *testing.T, g api.Game, l ...api.Move) api.Game {
	t.Helper()
	for _, m := range l {
		next, e := game.Play(g, m)
		if e != api.OK {
			t.Fatalf("Play(%v, %v): error %d", g, m, e)
		}
		g = next
	}
	return g
}

// firstTurns are the moves that bring all balls in.
func firstTurns() []api.Move {
	var l []api.Move
	for ball := range api.Balls {
		l = append(l, choose(ball), strike())
	}
	return l
}

// mustMoves returns the moves that are allowed.
func mustMoves(t *testing.T, g api.Game) []api.Move {
	t.Helper()
	l, e := game.Moves(g)
	if e != api.OK {
		t.Fatalf("Moves(%v): error %d", g, e)
	}
	return l
}

// sameMoves reports whether two lists of moves are the same; nil lists and empty ones are.
func sameMoves(a, b []api.Move) bool {
	return len(a) == 0 && len(b) == 0 || reflect.DeepEqual(a, b)
}

// edges are numbers at which something may change.
func edges() []int {
	return []int{
		math.MinInt, -4, -3, -2, -1, 0, 1, 2, 3, 4, 5, 6, 7, 8, 11, 12, 13, 14, 39, 40, 41,
		api.MaxTurns - 2, api.MaxTurns - 1, api.MaxTurns, api.MaxTurns + 1, math.MaxInt,
	}
}

// numbers are all numbers of a position.
func numbers(g *api.Game) []*int {
	return []*int{
		&g.Code, &g.Phase, &g.Side, &g.Ball, &g.Taken, &g.Points[0], &g.Points[1], &g.Points[2], &g.Points[3],
		&g.Halves[0], &g.Halves[1], &g.Turns, &g.Began, &g.Last, &g.Winner,
	}
}

// flags are all that is true or false in a position.
func flags(g *api.Game) []*bool {
	return []*bool{
		&g.In[0], &g.In[1], &g.In[2], &g.In[3], &g.Dead[0], &g.Dead[1], &g.Dead[2], &g.Dead[3],
		&g.Lift[0], &g.Lift[1], &g.Half,
	}
}

// spoilt returns a position with a number or a flag changed.
func spoilt(r *rand.Rand, g api.Game) api.Game {
	if r.Intn(2) == 0 {
		*among(r, numbers(&g)...) = among(r, edges()...)
	} else {
		f := among(r, flags(&g)...)
		*f = !*f
	}
	return g
}

// anyGame returns a legal position, in any phase of any code.
func anyGame(r *rand.Rand) api.Game {
	for {
		g := likely(r)
		if modelLegal(g) {
			return g
		}
	}
}

// likely returns a position that is often legal.
func likely(r *rand.Rand) api.Game {
	g := api.Game{Code: r.Intn(4), Side: r.Intn(2), Phase: r.Intn(5), Ball: none, Taken: none, Last: none, Winner: -1}
	c := modelLaws[g.Code]
	g.Turns = among(r, 0, 1, 2, 3, 4, 5, 6, 7, 8, 9, 100, 101, api.MaxTurns-1, api.MaxTurns)
	order := []int{0, 1, 2, 3}
	if r.Intn(2) == 0 {
		order = []int{2, 3, 0, 1}
	}
	for _, ball := range order[:min(g.Turns, 4)] {
		g.In[ball], g.Points[ball] = true, among(r, 0, 1, 2, 5, 6, 7, 9, 10, 11, 12)%(c.Hoops+1)
		if r.Intn(3) == 0 {
			g.Points[ball] = c.Hoops
		}
		if r.Intn(5) == 0 {
			g.In[ball], g.Points[ball] = false, api.PeggedOut
		}
	}
	if c.Bisques {
		g.Halves = [2]int{r.Intn(5), among(r, 0, 1, 2, 40)}
	}
	if c.Lifts[0] > 0 {
		g.Lift = [2]bool{r.Intn(2) == 0, r.Intn(2) == 0}
	}
	switch g.Phase {
	case 0:
		if c.Bisques && r.Intn(3) > 0 {
			g.Last = among(r, 1-g.Side, 3-g.Side)
		}
	case 4:
		g.Winner = r.Intn(2)
		for _, ball := range []int{g.Winner, g.Winner + 2} {
			g.In[ball], g.Points[ball] = false, api.PeggedOut
		}
	default:
		g.Ball = among(r, g.Side, g.Side+2)
		g.Began = r.Intn(max(1, g.Points[g.Ball]+1))
		for ball := range g.Dead {
			g.Dead[ball] = ball != g.Ball && g.In[ball] && r.Intn(2) == 0
		}
		if g.Phase == 2 {
			g.Taken = r.Intn(4)
			g.Dead[g.Taken] = false
		}
		g.Half = c.Bisques && r.Intn(3) == 0
	}
	return g
}

// anyEvents returns some events that are possible in a legal position in a turn.
func anyEvents(r *rand.Rand, g api.Game) []api.Event {
	var l []api.Event
	var in []int
	for ball := range g.In {
		if g.In[ball] {
			in = append(in, ball)
		}
	}
	for range among(r, 0, 1, 1, 2, 2, 3, 4, 6, 9, 24) {
		x := event(among(r, 1, 1, 2, 2, 3, 3, 4), among(r, in...))
		if x.Kind != api.EventHit || x.Ball != g.Ball {
			l = append(l, x)
		}
	}
	if len(l) < api.MaxEvents && r.Intn(8) == 0 {
		l = append(l, event(api.EventFault, among(r, edges()...)))
	}
	return l
}

// anyMove returns a move that is allowed in a legal position whose game is not over, with events that are possible.
func anyMove(t *testing.T, r *rand.Rand, g api.Game) api.Move {
	t.Helper()
	m := among(r, mustMoves(t, g)...)
	if m.Kind == api.MovePass && r.Intn(3) > 0 {
		m = mustMoves(t, g)[0]
	}
	if m.Kind == api.MoveStroke {
		m.Events = anyEvents(r, g)
	}
	return m
}
