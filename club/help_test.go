package club_test

import (
	"math"
	"math/rand"
	"reflect"
	"slices"
	"testing"

	"roquet/api"
	"roquet/club"
	"roquet/game"
	"roquet/lawn"
)

const (
	none   = api.NoBall
	size   = 2946 // the radius of the balls of the examples
	far    = api.MaxPlace
	dozen  = 12
	drives = api.BlowDrive
)

// dice returns a source of numbers that are the same at each run.
func dice(seed int64) *rand.Rand { return rand.New(rand.NewSource(seed)) }

// among returns one of some things.
func among[T any](r *rand.Rand, l ...T) T { return l[r.Intn(len(l))] }

// from returns a number from a to b.
func from(r *rand.Rand, a, b int64) int64 { return a + r.Int63n(b-a+1) }

// wild are numbers that are above, or below, all that is possible anywhere.
func wild() []int64 {
	return []int64{math.MinInt64, math.MinInt64 + 1, -1 << 40, 1 << 41, math.MaxInt64}
}

// The setups.

func at(x, y int64) api.Point { return api.Point{X: x, Y: y} }

// green returns the lawn of the examples, with a drag and no slopes.
func green(drag int64) api.Lawn {
	return api.Lawn{
		Name: "green", Wide: 100000, Long: 200000, Yard: 5000,
		Hoops: []api.Hoop{{X: 50000, Y: 40000, Gap: 6000, Wire: 500}, {X: 30000, Y: 100000, Gap: 6000, Wire: 500, Along: true}},
		Peg:   api.Disc{At: at(50000, 100000), R: 1200},
		NX:    2, NY: 1,
		Cells: []api.Cell{{Drag: drag}, {Drag: drag}},
	}
}

// laws returns the book of the examples of the referee.
func laws() api.Book {
	return api.Book{Name: "laws", Year: 2021, Articles: []api.Article{
		{Number: 10, If: []string{"double"}, Unless: []string{"shook"}, Then: "fault"},
		{Number: 20, If: []string{"fault"}, Then: "ended"},
		{Number: 30, If: []string{"ended", "wire"}, Then: "warned"},
	}}
}

// courseOf returns a course of the hoops 0 and 1 by turns, forward.
func courseOf(code int) []api.Gate {
	c, _ := game.Laws(code)
	l := make([]api.Gate, c.Hoops)
	for i := range l {
		l[i] = api.Gate{Hoop: i % 2, Forward: true}
	}
	return l
}

// setup returns the setup of the examples.
func setup() api.Setup {
	s := api.Setup{
		Ground: api.Ground{Lawn: green(10000), Bounce: api.Bounce{Rebound: 800}},
		Code:   api.CodeShort, Course: courseOf(api.CodeShort), Book: laws(), Limit: 3,
	}
	for range api.Balls {
		s.Ground.Balls = append(s.Ground.Balls, api.Ball{Mass: 450, Radius: size})
	}
	return s
}

// setupWith returns the setup of the examples after changes of it.
func setupWith(changes ...func(*api.Setup)) api.Setup {
	s := setup()
	for _, change := range changes {
		change(&s)
	}
	return s
}

// codeIs returns a change of the code, with its course.
func codeIs(code int) func(*api.Setup) {
	return func(s *api.Setup) { s.Code, s.Course = code, courseOf(code) }
}

// dragIs returns a change of the drag of all cells.
func dragIs(drag int64) func(*api.Setup) {
	return func(s *api.Setup) { s.Ground.Lawn = green(drag) }
}

// The doings.

func choose(ball int, p api.Point) api.Doing {
	return api.Doing{Kind: api.DoChoose, Ball: ball, At: p}
}

func lift(ball int, p api.Point) api.Doing {
	return api.Doing{Kind: api.DoChoose, Ball: ball, At: p, Lift: true}
}

// strike returns a stroke with a drive.
func strike(aim api.Point, power int64, marks ...api.Mark) api.Doing {
	return api.Doing{Kind: api.DoStroke, Aim: aim, Power: power, Blow: drives, Marks: marks}
}

// croquet returns a stroke with a drive, in which the own ball is put towards a place.
func croquet(towards, aim api.Point, power int64, marks ...api.Mark) api.Doing {
	d := strike(aim, power, marks...)
	d.At = towards
	return d
}

func pass() api.Doing   { return api.Doing{Kind: api.DoPass} }
func bisque() api.Doing { return api.Doing{Kind: api.DoBisque} }
func half() api.Doing   { return api.Doing{Kind: api.DoBisque, Half: true} }

// doings returns a list of doings.
func doings(l ...api.Doing) []api.Doing { return l }

// mark returns a mark.
func mark(kind, ball int, from, to int64) api.Mark {
	return api.Mark{Kind: kind, Ball: ball, From: from, To: to}
}

// tap is the mark of a mallet.
func tap(from, to int64) api.Mark { return mark(api.MarkMallet, 0, from, to) }

// double returns the marks of a fault by the book of the examples.
func double() []api.Mark { return []api.Mark{tap(0, 1), tap(2, 3)} }

// The events and moves.

func event(kind, ball int) api.Event { return api.Event{Kind: kind, Ball: ball} }
func hit(ball int) api.Event         { return event(api.EventHit, ball) }
func hoop(ball int) api.Event        { return event(api.EventHoop, ball) }
func peg(ball int) api.Event         { return event(api.EventPeg, ball) }
func off(ball int) api.Event         { return event(api.EventOff, ball) }
func fault() api.Event               { return event(api.EventFault, 0) }

// struck returns the move of a stroke with events.
func struck(l ...api.Event) api.Move { return api.Move{Kind: api.MoveStroke, Events: l} }

// The positions.

// all is for all four balls.
var all = [4]bool{true, true, true, true}

// turnOf returns a position in the fifth turn, that of the ball 0, in which all balls have no points, and changes it.
func turnOf(code int, changes ...func(*api.Game)) api.Game {
	g := api.Game{Code: code, Phase: api.PhaseStroke, Ball: 0, Taken: none, In: all, Turns: 5, Last: none, Winner: -1}
	return with(g, changes...)
}

// startOf returns a position in which the side 0 is to begin the fifth turn, and changes it.
func startOf(code int, changes ...func(*api.Game)) api.Game {
	g := api.Game{Code: code, Ball: none, Taken: none, In: all, Turns: 4, Last: none, Winner: -1}
	return with(g, changes...)
}

// overOf returns a position in which the side 0 has won.
func overOf(code int, changes ...func(*api.Game)) api.Game {
	g := startOf(code, func(g *api.Game) {
		g.Phase, g.Winner, g.In, g.Points = api.PhaseOver, 0, [4]bool{1: true, 3: true}, [4]int{api.PeggedOut, 3, api.PeggedOut, 5}
	})
	return with(g, changes...)
}

// with returns a position after changes of it.
func with(g api.Game, changes ...func(*api.Game)) api.Game {
	for _, change := range changes {
		change(&g)
	}
	return g
}

// turnBy returns a change by which it is the turn of a ball.
func turnBy(ball int) func(*api.Game) {
	return func(g *api.Game) { g.Ball, g.Side, g.Turns = ball, ball%2, 5+ball%2 }
}

// croquetOf returns a change by which croquet is to be taken of a ball.
func croquetOf(ball int) func(*api.Game) {
	return func(g *api.Game) { g.Phase, g.Taken = api.PhaseCroquet, ball }
}

// points returns a change of the points.
func points(p ...int) func(*api.Game) { return func(g *api.Game) { g.Points = [4]int(p) } }

// peggedOut returns a change by which a ball is pegged out.
func peggedOut(ball int) func(*api.Game) {
	return func(g *api.Game) { g.Points[ball], g.In[ball] = api.PeggedOut, false }
}

// spread returns places at which all balls lie apart from each other, and far away from all else.
func spread() []api.Point {
	return []api.Point{at(20000, 150000), at(40000, 160000), at(60000, 150000), at(80000, 160000)}
}

// put returns places after some balls were put at others: a ball, and its place.
func put(l []api.Point, moved ...any) []api.Point {
	l = slices.Clone(l)
	for i := 0; i < len(moved); i += 2 {
		l[moved[i].(int)] = moved[i+1].(api.Point)
	}
	return l
}

// What is asked of matches.

func mustNew(t *testing.T, s api.Setup) *club.Match {
	t.Helper()
	m, e := club.New(s)
	if m == nil || e != api.OK {
		t.Fatalf("New(%v): %v, error %d", s, m, e)
	}
	return m
}

func mustResume(t *testing.T, s api.Setup, g api.Game, places []api.Point) *club.Match {
	t.Helper()
	m, e := club.Resume(s, g, places)
	if m == nil || e != api.OK {
		t.Fatalf("Resume(%v, %v, %v): %v, error %d", s, g, places, m, e)
	}
	return m
}

func mustDo(t *testing.T, m *club.Match, l ...api.Doing) api.Done {
	t.Helper()
	var done api.Done
	for i, d := range l {
		var e api.Errno
		if done, e = m.Do(d); e != api.OK {
			t.Fatalf("the doing %d, %v: error %d, in %v with %v", i, d, e, m.Game(), m.Places())
		}
	}
	return done
}

// refused checks that a doing is an error, and leaves a match as it is.
func refused(t *testing.T, name string, m *club.Match, d api.Doing, want api.Errno) {
	t.Helper()
	before := stateOf(m)
	if done, e := m.Do(d); !isNothing(done) || e != want {
		t.Errorf("%s: Do(%v): %v, error %d, want %d", name, d, done, e, want)
	}
	if after := stateOf(m); !sameStates(after, before) {
		t.Errorf("%s: Do(%v) with an error: %v, want %v", name, d, after, before)
	}
}

// done checks what came of a doing, but for its ticks and knocks, and where the balls lie behind it.
func done(t *testing.T, name string, m *club.Match, d api.Doing, move api.Move, why []int, places ...api.Point) api.Done {
	t.Helper()
	x, e := m.Do(d)
	if e != api.OK || !sameMoves([]api.Move{x.Move}, []api.Move{move}) || !slices.Equal(x.Fault, why) {
		t.Errorf("%s: Do(%v): %v, error %d, want %v by %v", name, d, x, e, move, why)
	}
	if l := m.Places(); len(places) > 0 && !slices.Equal(l, places) {
		t.Errorf("%s: Do(%v): %v, want %v", name, d, l, places)
	}
	return x
}

// standing is how a match stands.
type standing struct {
	game   api.Game
	places []api.Point
	moves  []api.Move
}

// stateOf returns how a match stands, in memory of its own.
func stateOf(m *club.Match) standing {
	moves := slices.Clone(m.Moves())
	for i := range moves {
		moves[i].Events = slices.Clone(moves[i].Events)
	}
	return standing{m.Game(), slices.Clone(m.Places()), moves}
}

func sameStates(a, b standing) bool {
	return a.game == b.game && slices.Equal(a.places, b.places) && sameMoves(a.moves, b.moves)
}

// sameMoves reports whether two lists of moves are the same; nil lists and empty ones are.
func sameMoves(a, b []api.Move) bool {
	return slices.EqualFunc(a, b, func(x, y api.Move) bool {
		return x.Kind == y.Kind && x.Ball == y.Ball && x.Lift == y.Lift && slices.Equal(x.Events, y.Events)
	})
}

// sameDone reports whether the same came of two doings.
func sameDone(a, b api.Done) bool {
	return sameMoves([]api.Move{a.Move}, []api.Move{b.Move}) && a.Ticks == b.Ticks && a.Knocks == b.Knocks && slices.Equal(a.Fault, b.Fault)
}

// isNothing reports whether nothing came of a doing.
func isNothing(d api.Done) bool { return sameDone(d, api.Done{}) }

// sameDoings reports whether two lists of doings are the same; nil lists and empty ones are.
func sameDoings(a, b []api.Doing) bool {
	return slices.EqualFunc(a, b, func(x, y api.Doing) bool {
		marks := slices.Equal(x.Marks, y.Marks)
		x.Marks, y.Marks = nil, nil
		return marks && reflect.DeepEqual(x, y)
	})
}

// mayLie reports whether a ball may lie at a place with others of a setup.
func mayLie(s api.Setup, ball int, p api.Point, in [4]bool, places []api.Point) bool {
	var others []api.Disc
	for other, q := range places {
		if other != ball && in[other] {
			others = append(others, api.Disc{At: q, R: s.Ground.Balls[other].Radius})
		}
	}
	may, e := lawn.May(s.Ground.Lawn, p, s.Ground.Balls[ball].Radius, others)
	return may && e == api.OK
}
