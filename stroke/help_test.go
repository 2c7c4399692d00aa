package stroke_test

import (
	"math"
	"math/rand"
	"reflect"
	"testing"

	"roquet/api"
	"roquet/lawn"
	"roquet/stroke"
)

const (
	far  = api.MaxPlace    // the greatest coordinate of a place
	fast = api.MaxMomentum // the greatest number of a momentum
)

// at returns a place, or a momentum.
func at(x, y int64) api.Point { return api.Point{X: x, Y: y} }

// plus returns p + q.
func plus(p, q api.Point) api.Point { return at(p.X+q.X, p.Y+q.Y) }

// green returns the lawn of the examples, all of whose cells have this drag and no slope.
func green(drag int64) api.Lawn {
	return api.Lawn{
		Name: "green", Wide: 100000, Long: 200000, Yard: 5000,
		Hoops: []api.Hoop{
			{X: 50000, Y: 40000, Gap: 6000, Wire: 500},
			{X: 30000, Y: 100000, Gap: 6000, Wire: 500, Along: true},
		},
		Peg: api.Disc{At: at(50000, 100000), R: 1200},
		NX:  2, NY: 1,
		Cells: []api.Cell{{Drag: drag}, {Drag: drag}},
	}
}

// ground returns a ground with balls of the examples on the lawn of the examples, with a drag.
func ground(balls int, drag int64) api.Ground {
	g := api.Ground{Lawn: green(drag), Bounce: api.Bounce{Rebound: 800}}
	for range balls {
		g.Balls = append(g.Balls, api.Ball{Mass: 450, Radius: 2946})
	}
	return g
}

// ball is a ball that moves: where it is, and its momentum.
type ball struct{ at, m api.Point }

// state returns a state in which balls move.
func state(balls ...ball) api.State {
	s := api.State{Out: make([]bool, len(balls))}
	for _, b := range balls {
		s.Motions = append(s.Motions, api.Motion{At: b.at, M: b.m})
	}
	return s
}

// with returns a copy of s after a change of it.
func with(s api.State, change func(*api.State)) api.State {
	s.Motions = append([]api.Motion{}, s.Motions...)
	s.Out = append([]bool{}, s.Out...)
	change(&s)
	return s
}

// groundWith returns a copy of g after a change of it.
func groundWith(g api.Ground, change func(*api.Ground)) api.Ground {
	g.Balls = append([]api.Ball{}, g.Balls...)
	g.Lawn.Hoops = append([]api.Hoop{}, g.Lawn.Hoops...)
	g.Lawn.Cells = append([]api.Cell{}, g.Lawn.Cells...)
	change(&g)
	return g
}

// sameState reports whether two states are the same; nil lists and empty ones are.
func sameState(a, b api.State) bool {
	return a.Who == b.Who && a.Flies == b.Flies && a.Tick == b.Tick &&
		sameList(a.Motions, b.Motions) && sameList(a.Out, b.Out)
}

// sameList reports whether two lists are the same; nil ones and empty ones are.
func sameList[T any](a, b []T) bool {
	return len(a) == 0 && len(b) == 0 || reflect.DeepEqual(a, b)
}

// isZero reports whether a state is the zero value.
func isZero(s api.State) bool { return sameState(s, api.State{}) }

// mustTick returns the state after a tick, and fails if there is none.
func mustTick(t *testing.T, g api.Ground, s api.State) (api.State, []api.Knock) {
	t.Helper()
	next, knocks, e := stroke.Tick(g, s)
	if e != api.OK {
		t.Fatalf("Tick(%v, %v): error %d", g, s, e)
	}
	return next, knocks
}

// mustPlay returns the state after some ticks, and fails if there is none.
func mustPlay(t *testing.T, g api.Ground, s api.State, ticks int) (api.State, []api.Knock) {
	t.Helper()
	next, knocks, e := stroke.Play(g, s, ticks)
	if e != api.OK {
		t.Fatalf("Play(%v, %v, %d): error %d", g, s, ticks, e)
	}
	return next, knocks
}

// mustStrike returns the state after a blow, and fails if there is none.
func mustStrike(t *testing.T, g api.Ground, s api.State, b api.Blow) (api.State, []api.Knock) {
	t.Helper()
	next, knocks, e := stroke.Strike(g, s, b)
	if e != api.OK {
		t.Fatalf("Strike(%v, %v, %v): error %d", g, s, b, e)
	}
	return next, knocks
}

// badNumbers are numbers that are above, or below, all that is possible anywhere.
func badNumbers() []int64 {
	return []int64{math.MaxInt64, math.MinInt64, math.MinInt64 + 1, 1 << 40, -1 << 40}
}

// dice returns numbers that are the same in each run.
func dice(seed int64) *rand.Rand { return rand.New(rand.NewSource(seed)) }

// roll returns a number from a to b.
func roll(r *rand.Rand, a, b int64) int64 { return a + r.Int63n(b-a+1) }

// anyGround returns a ground that is valid: a small lawn, on which balls meet often.
func anyGround(r *rand.Rand) api.Ground {
	g := api.Ground{Lawn: anyLawn(r), Bounce: api.Bounce{Rebound: roll(r, 0, api.MaxRebound), Drag: roll(r, 0, api.MaxLost)}}
	for range roll(r, 1, api.MaxBalls) {
		g.Balls = append(g.Balls, api.Ball{Mass: roll(r, api.MinMass, api.MaxMass), Radius: roll(r, api.MinRadius, api.MaxGirth)})
	}
	return g
}

// anyLawn returns a lawn that is valid.
func anyLawn(r *rand.Rand) api.Lawn {
	for {
		l := api.Lawn{
			Name: "any", Wide: roll(r, api.MinSide, 100000), Long: roll(r, api.MinSide, 100000), Yard: 3000,
			NX: int(roll(r, 1, 3)), NY: int(roll(r, 1, 3)),
		}
		l.Peg = api.Disc{At: at(roll(r, 0, l.Wide), roll(r, 0, l.Long)), R: roll(r, 1, 2000)}
		for range roll(r, 1, 4) {
			l.Hoops = append(l.Hoops, api.Hoop{
				X: roll(r, 0, l.Wide), Y: roll(r, 0, l.Long), Gap: 2 * roll(r, 1000, 5000), Wire: roll(r, 50, 1000), Along: r.Intn(2) == 0,
			})
		}
		for range l.NX * l.NY {
			l.Cells = append(l.Cells, anyCell(r))
		}
		if lawn.Check(l) == api.OK {
			return l
		}
	}
}

// anyCell returns a cell, often without a drag or a slope.
func anyCell(r *rand.Rand) api.Cell {
	c := api.Cell{Drag: roll(r, 0, 1<<roll(r, 0, 14)), DX: roll(r, -3000, 3000), DY: roll(r, -3000, 3000)}
	switch r.Intn(4) {
	case 0:
		c.Drag = 0
	case 1:
		c.DX, c.DY = 0, 0
	}
	return c
}

// anyState returns a state of a ground that is valid, in which many things are in contact.
func anyState(r *rand.Rand, g api.Ground) api.State {
	s := api.State{Who: r.Intn(len(g.Balls)), Tick: r.Intn(api.MaxRun + 1)}
	if r.Intn(3) == 0 {
		s.Flies = r.Intn(api.JumpTicks + 1)
	}
	posts, _ := lawn.Posts(g.Lawn)
	for _, b := range g.Balls {
		m := api.Motion{At: anyPlace(r, g, s.Motions, posts, b.Radius), Rest: at(roll(r, -32*b.Mass, 32*b.Mass-1), roll(r, -32*b.Mass, 32*b.Mass-1))}
		out := r.Intn(8) == 0
		if !out && r.Intn(4) > 0 {
			m.M = anyMomentum(r)
		}
		s.Motions, s.Out = append(s.Motions, m), append(s.Out, out)
	}
	return s
}

// anyMomentum returns a momentum of any size; sometimes one at the limits.
func anyMomentum(r *rand.Rand) api.Point {
	if r.Intn(8) == 0 {
		return at(fast*roll(r, -1, 1), fast*roll(r, -1, 1))
	}
	size := int64(1) << roll(r, 0, 24)
	return at(roll(r, -size, size), roll(r, -size, size))
}

// anyPlace returns a place on the lawn; often one that is about as far away from a ball or a post as both radii together.
func anyPlace(r *rand.Rand, g api.Ground, balls []api.Motion, posts []api.Disc, radius int64) api.Point {
	for {
		p := at(roll(r, 0, g.Lawn.Wide), roll(r, 0, g.Lawn.Long))
		switch r.Intn(4) {
		case 0:
			if len(balls) > 0 {
				k := r.Intn(len(balls))
				p = beside(r, balls[k].At, radius+g.Balls[k].Radius)
			}
		case 1:
			d := posts[r.Intn(len(posts))]
			p = beside(r, d.At, radius+d.R)
		case 2:
			p = [4]api.Point{at(0, p.Y), at(g.Lawn.Wide, p.Y), at(p.X, 0), at(p.X, g.Lawn.Long)}[r.Intn(4)]
		}
		if 0 <= p.X && p.X <= g.Lawn.Wide && 0 <= p.Y && p.Y <= g.Lawn.Long {
			return p
		}
	}
}

// beside returns a place that is about reach away from p.
func beside(r *rand.Rand, p api.Point, reach int64) api.Point {
	angle, length := r.Float64()*2*math.Pi, float64(reach)*(0.93+0.08*r.Float64())
	return plus(p, at(int64(length*math.Cos(angle)), int64(length*math.Sin(angle))))
}
