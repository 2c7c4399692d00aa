package stroke_test

import (
	"testing"

	"roquet/api"
	"roquet/stroke"
)

// unit is the momentum that moves a ball of the examples by 1 in a step.
const unit = 64 * 450

// sloping returns a ground with balls of the examples on two cells: a flat one without a drag, and another one.
func sloping(balls int, c api.Cell) api.Ground {
	g := ground(balls, 0)
	g.Lawn.Cells[1] = c
	return g
}

// P4.4: the slope of its cell works on a ball that rolls, and then the drag.
func TestTickSlope(t *testing.T) {
	g := sloping(1, api.Cell{Drag: 100, DX: 3, DY: -4})
	for _, x := range []struct{ at, m, want api.Point }{
		{at(50000, 60000), at(297, 404), at(240, 320)},
		{at(49999, 60000), at(297, 404), at(297, 404)},
		{at(100000, 200000), at(297, 404), at(240, 320)},
		{at(50000, 60000), at(57, 84), at(0, 0)},
		{at(50000, 60000), at(-3, 4), at(0, 0)},
		{at(50000, 60000), at(0, 0), at(0, 0)},
	} {
		s, knocks := mustTick(t, g, state(ball{x.at, x.m}))
		if s.Motions[0].M != x.want || len(knocks) != 0 {
			t.Errorf("%v: %v, %v", x, s, knocks)
		}
	}
}

// P4.4: what was slowed is what rolls, for 16 steps, with its rest.
func TestTickRolls(t *testing.T) {
	s, _ := mustTick(t, ground(1, 10000), state(ball{at(50000, 60000), at(0, 200000)}))
	if s.Motions[0] != (api.Motion{At: at(50000, 60106), M: at(0, 190000), Rest: at(0, -12800)}) {
		t.Errorf("with a drag: %v", s)
	}
	s = with(state(ball{at(50000, 60000), at(unit+900, -7*unit)}), func(s *api.State) { s.Motions[0].Rest = at(14000, -100) })
	s, _ = mustTick(t, ground(1, 0), s)
	if s.Motions[0] != (api.Motion{At: at(50017, 59888), M: at(unit+900, -7*unit), Rest: at(14000+16*900-unit, -100)}) {
		t.Errorf("without a drag: %v", s)
	}
}

// P4.4: the ball that flies rolls over no cell and meets nothing; all others do.
func TestTickFlies(t *testing.T) {
	g := sloping(3, api.Cell{Drag: 100, DX: 3, DY: -4})
	s := state(ball{at(70000, 60000), at(297, 404)}, ball{at(80000, 60000), at(297, 404)}, ball{at: at(70000, 65890)})
	s.Who, s.Flies, s.Tick = 0, 2, 17
	next, knocks := mustTick(t, g, s)
	if next.Motions[0].M != at(297, 404) || next.Motions[1].M != at(240, 320) || next.Flies != 1 || next.Tick != 18 || len(knocks) != 0 {
		t.Errorf("the first ball flies: %v, %v", next, knocks)
	}
	s.Who = 1
	next, knocks = mustTick(t, g, s)
	if next.Motions[0].M == at(297, 404) || next.Motions[1].M != at(297, 404) || len(knocks) == 0 || knocks[0] != (api.Knock{Tick: 17, Step: 1, Kind: api.KnockBall, Ball: 0, Other: 2}) {
		t.Errorf("the second ball flies: %v, %v", next, knocks)
	}
}

// P4.4: a ball that lands counts again, in the tick after the last one for which it flies.
func TestTickLands(t *testing.T) {
	// It leans on the peg, too slowly to get away from it: that is a knock in each step.
	s := state(ball{at(50000-4146, 100000), at(1, 0)})
	s.Flies = 2
	for flies := 2; flies >= 0; flies-- {
		next, knocks := mustTick(t, ground(1, 0), s)
		if want := map[bool]int{true: 0, false: 16}[flies > 0]; len(knocks) != want || next.Flies != max(flies-1, 0) {
			t.Errorf("Flies %d: %v, %d knocks, want %d", flies, next, len(knocks), want)
		}
		s = next
	}
}

// P4.3, P4.4: a ball jumps over another one and a wire, in which it meets nothing.
func TestJump(t *testing.T) {
	g := ground(2, 10000)
	s := state(ball{at: at(46500, 34000)}, ball{at: at(46500, 39900)})
	blow := api.Blow{Aim: at(0, 1), Power: api.MaxPower, Kind: api.BlowJump}
	flown, knocks := mustPlay(t, g, first2(mustStrike(t, g, s, blow)), 8)
	if len(knocks) != 0 || flown.Motions[0].At != at(46500, 34000+8*1165+1) || flown.Motions[0].M != at(0, api.MaxPower) {
		t.Errorf("a jump: %v, %v", flown, knocks)
	}
	blow.Kind = api.BlowStop
	if _, knocks = mustPlay(t, g, first2(mustStrike(t, g, s, blow)), 8); len(knocks) == 0 {
		t.Error("a blow that is no jump meets nothing")
	}
}

// first2 returns the first one of two results.
func first2[A, B any](a A, _ B) A { return a }

// P4.4: a ball that is not on the lawn any more is out, in this step; on the boundary it is on the lawn.
func TestTickOut(t *testing.T) {
	for _, x := range []struct {
		from, m, to api.Point
		step        int
	}{
		{at(10, 60000), at(-2*unit, 0), at(-2, 60000), 6},
		{at(10, 60000), at(-10*unit, 7*unit), at(-10, 60014), 2},
		{at(99999, 60000), at(unit, 0), at(100001, 60000), 2},
		{at(20000, 0), at(0, -unit), at(20000, -1), 1},
		{at(20000, 199985), at(0, unit), at(20000, 200001), 16},
	} {
		s := state(ball{at: at(30000, 30000)}, ball{x.from, x.m})
		s.Tick, s.Motions[1].Rest = 99, at(5, 6)
		next, knocks := mustTick(t, ground(2, 0), s)
		if !next.Out[1] || next.Motions[1] != (api.Motion{At: x.to, Rest: at(5, 6)}) || next.Out[0] || next.Tick != 100 {
			t.Errorf("%v: %v", x, next)
		}
		if !sameList(knocks, []api.Knock{{Tick: 99, Step: x.step, Kind: api.KnockOut, Ball: 1}}) {
			t.Errorf("%v: knocks %v", x, knocks)
		}
	}
	s, knocks := mustTick(t, ground(1, 0), state(ball{at(20000, 199984), at(0, unit)}))
	if s.Out[0] || s.Motions[0].M != at(0, unit) || s.Motions[0].At != at(20000, 200000) || len(knocks) != 0 {
		t.Errorf("on the boundary: %v, %v", s, knocks)
	}
}

// P4.4: a ball that flies leaves the lawn, too.
func TestTickFliesOut(t *testing.T) {
	s := state(ball{at(10, 60000), at(-2*unit, 0)})
	s.Flies = 8
	next, knocks := mustTick(t, ground(1, 100), s)
	if !next.Out[0] || next.Motions[0] != (api.Motion{At: at(-2, 60000)}) || next.Flies != 7 || len(knocks) != 1 {
		t.Errorf("%v, %v", next, knocks)
	}
}

// P4.4: balls leave in their order, and what is out is met by nothing, not even in the step in which it leaves.
func TestTickOutMeetsNothing(t *testing.T) {
	s := state(ball{at(0, 65890), at(-unit, 0)}, ball{at(30000, 0), at(0, -unit)}, ball{at(0, 60000), at(0, unit)})
	next, knocks := mustTick(t, ground(3, 0), s)
	if !sameList(knocks, []api.Knock{{Step: 1, Kind: api.KnockOut, Ball: 0}, {Step: 1, Kind: api.KnockOut, Ball: 1}}) {
		t.Errorf("knocks %v", knocks)
	}
	if next.Motions[2].M != at(0, unit) || !next.Out[0] || !next.Out[1] || next.Out[2] {
		t.Errorf("%v", next)
	}
}

// P4.4: a ball meets another one in the step in which they come into contact.
func TestTickMeets(t *testing.T) {
	s := state(ball{at(20000, 60000), at(2*unit, 0)}, ball{at: at(20000+5892+10, 60000)})
	s.Tick = 3
	next, knocks := mustTick(t, ground(2, 0), s)
	if !sameList(knocks, []api.Knock{{Tick: 3, Step: 5, Kind: api.KnockBall, Ball: 0, Other: 1}}) {
		t.Errorf("knocks %v", knocks)
	}
	// The kick is 1800 5892 h / 900,000, where h is 450 57600 / 5892 rounded down; and the ball that is met rolls for 11 steps.
	want := []api.Motion{{At: at(20012, 60000), M: at(2*unit-51837, 0), Rest: at(5793, 0)}, {At: at(25922, 60000), M: at(51837, 0), Rest: at(-5793, 0)}}
	if !sameList(next.Motions, want) {
		t.Errorf("%v", next)
	}
}

// P4.4: the numbers of a knock are those of the ground, whichever balls do not count.
func TestTickNumbers(t *testing.T) {
	s := state(ball{at: at(90000, 190000)}, ball{at(20000, 60000), at(2*unit, 0)}, ball{at: at(10000, 190000)}, ball{at: at(20000+5892+10, 60000)})
	s.Out[0], s.Who, s.Flies = true, 2, 3
	next, knocks := mustTick(t, ground(4, 0), s)
	if !sameList(knocks, []api.Knock{{Step: 5, Kind: api.KnockBall, Ball: 1, Other: 3}}) || next.Motions[3].M != at(51837, 0) {
		t.Errorf("%v, %v", next, knocks)
	}
}

// P4.4: a ball bounces off a post in the step in which they come into contact.
func TestTickPost(t *testing.T) {
	for post, x := range []struct{ from, m, want api.Point }{
		{at(46500, 40000-3446-10), at(0, 2*unit), at(0, 2*unit-99244)},
		{at(53500, 40000+3446+10), at(0, -2*unit), at(0, 99244-2*unit)},
		{at(30000-3446-10, 96500), at(2*unit, 0), at(2*unit-99244, 0)},
		{at(30000+3446+10, 103500), at(-2*unit, 0), at(99244-2*unit, 0)},
		{at(50000+4146+10, 100000), at(-2*unit, 0), at(97016-2*unit, 0)},
	} {
		// The kick is 18 l h / 10, where l is the distance and h is 57600 / l rounded down.
		next, knocks := mustTick(t, ground(1, 0), state(ball{x.from, x.m}))
		if !sameList(knocks, []api.Knock{{Step: 5, Kind: api.KnockPost, Ball: 0, Other: post}}) || next.Motions[0].M != x.want {
			t.Errorf("post %d: %v, %v", post, next, knocks)
		}
	}
}

// P4.4: a ball that is too great for a hoop bounces off both of its wires, in order.
func TestTickBothWires(t *testing.T) {
	g := ground(1, 0)
	g.Balls[0].Radius = 3050
	next, knocks := mustTick(t, g, state(ball{at(50000, 39402), at(0, 2*unit)}))
	if len(knocks) < 2 || knocks[0] != (api.Knock{Step: 3, Kind: api.KnockPost, Other: 0}) || knocks[1] != (api.Knock{Step: 3, Kind: api.KnockPost, Other: 1}) {
		t.Errorf("%v, %v", next, knocks)
	}
}

// P4.4: in each step balls leave first, then balls bounce off each other, and then off posts.
func TestTickOrder(t *testing.T) {
	s := state(ball{at(45844, 100000), at(2*unit, 0)}, ball{at: at(48854, 105071)}, ball{at(8, 60000), at(-2*unit, 0)})
	_, knocks := mustTick(t, ground(3, 0), s)
	want := []api.Knock{
		{Step: 5, Kind: api.KnockOut, Ball: 2},
		{Step: 5, Kind: api.KnockBall, Ball: 0, Other: 1},
		{Step: 5, Kind: api.KnockPost, Ball: 0, Other: 4},
	}
	if len(knocks) < 3 || !sameList(knocks[:3], want) {
		t.Errorf("knocks %v", knocks)
	}
}

// P4.4: a still state has a tick, too; Flies is not below 0.
func TestTickStill(t *testing.T) {
	for _, flies := range []int{0, 1, 8} {
		s := state(ball{at: at(50000, 60000)}, ball{at: at(50000, 65892)})
		s.Motions[0].Rest, s.Flies, s.Tick, s.Who = at(3, -4), flies, 3999, 1
		next, knocks := mustTick(t, sloping(2, api.Cell{DX: 500}), s)
		if !sameState(next, with(s, func(s *api.State) { s.Flies, s.Tick = max(flies-1, 0), 4000 })) || len(knocks) != 0 {
			t.Errorf("Flies %d: %v, %v", flies, next, knocks)
		}
	}
}

// failsTick fails if a tick has not this error, or anything beside it.
func failsTick(t *testing.T, name string, g api.Ground, s api.State, want api.Errno) {
	t.Helper()
	if e := stroke.CheckState(g, s); e != api.OK {
		t.Fatalf("%s: the state is not valid: %d", name, e)
	}
	next, knocks, e := stroke.Tick(g, s)
	if e != want || !isZero(next) || len(knocks) != 0 {
		t.Errorf("Tick, %s: %v, %v, error %d, want %d", name, next, knocks, e, want)
	}
	next, knocks, e = stroke.Play(g, s, api.MaxRun)
	if e != want || !isZero(next) || len(knocks) != 0 {
		t.Errorf("Play, %s: %v, %v, error %d, want %d", name, next, knocks, e, want)
	}
	if track, e := stroke.Track(g, s, 0, api.MaxRun); e != want || len(track) != 0 {
		t.Errorf("Track, %s: %v, error %d, want %d", name, track, e, want)
	}
}

// P4.4: a momentum that is too great after a slope, even if it would be slowed then.
func TestTickTooSteep(t *testing.T) {
	for _, x := range []struct{ m, slope api.Point }{
		{at(fast, 0), at(1, 0)}, {at(-fast, 0), at(-1, 0)}, {at(0, fast), at(0, 1)}, {at(0, -fast+4095), at(0, -4096)},
	} {
		g := sloping(2, api.Cell{Drag: 1000, DX: x.slope.X, DY: x.slope.Y})
		s := state(ball{at: at(20000, 60000)}, ball{at(75000, 60000), x.m})
		failsTick(t, "too steep", g, s, api.ErrOver)
		s.Motions[1].M = at(x.m.X-x.slope.X, x.m.Y-x.slope.Y)
		mustTick(t, g, s)
	}
	// The slope does not work on a ball that flies, nor on one that is still.
	s := state(ball{at(75000, 60000), at(fast, 0)}, ball{at: at(75000, 90000)})
	s.Flies = 1
	mustTick(t, sloping(2, api.Cell{DX: 1}), s)
}

// P4.4: a step that leads to no valid place.
func TestTickNoPlace(t *testing.T) {
	g := ground(1, 0)
	g.Lawn.Wide = api.MaxPlace
	s := state(ball{at(far-15, 60000), at(unit, 0)})
	failsTick(t, "no place", g, s, api.ErrOver)
	s.Motions[0].At.X--
	mustTick(t, g, s)
	g.Lawn.Wide--
	s.Motions[0].At.X++
	next, knocks := mustTick(t, g, s)
	if !next.Out[0] || next.Motions[0].At != at(far, 60000) || len(knocks) != 1 {
		t.Errorf("a lawn that is smaller: %v, %v", next, knocks)
	}
}

// P4.4: a bounce of balls, and one off a post, that makes a momentum too great.
func TestTickTooFast(t *testing.T) {
	s := state(ball{at(50000, 60000), at(fast, fast)}, ball{at(54050, 60000+4050+1165), at(fast, -fast)})
	failsTick(t, "two balls", ground(2, 0), s, api.ErrOver)
	s.Flies = 1
	mustTick(t, ground(2, 0), s)
	s = state(ball{at(51200-582, 100000-3816-582), at(fast, fast)})
	failsTick(t, "a post", ground(1, 0), s, api.ErrOver)
	s.Flies = 1
	mustTick(t, ground(1, 0), s)
}

// P4.4: after the last tick there is none, before all that would go wrong in it.
func TestTickLast(t *testing.T) {
	s := state(ball{at(75000, 60000), at(fast, 0)})
	s.Tick = api.MaxRun
	failsTick(t, "the last tick", sloping(1, api.Cell{DX: 1}), s, api.ErrRange)
	s.Motions[0].M = at(0, 0)
	if next, _, e := stroke.Tick(ground(1, 0), s); e != api.ErrRange || !isZero(next) {
		t.Errorf("a still state: %v, error %d", next, e)
	}
	s.Tick--
	if next, _ := mustTick(t, ground(1, 0), s); next.Tick != api.MaxRun {
		t.Errorf("the tick before: %v", next)
	}
}

// P4.4: ticks do what their definition says.
func TestTickModel(t *testing.T) {
	r := dice(42)
	count := map[int]int{}
	errors := map[api.Errno]int{}
	for range 20000 {
		g := anyGround(r)
		s := anyState(r, g)
		m := modelOf(g, s)
		want := m.tick()
		if want != api.OK {
			m.s, m.knocks = api.State{}, nil
		}
		next, knocks, e := stroke.Tick(g, s)
		if e != want || !sameState(next, m.s) || !sameList(knocks, m.knocks) {
			t.Fatalf("Tick(%v, %v): %v, %v, error %d, want %v, %v, error %d", g, s, next, knocks, e, m.s, m.knocks, want)
		}
		errors[e]++
		for _, k := range knocks {
			count[k.Kind]++
		}
	}
	if count[api.KnockBall] < 1000 || count[api.KnockPost] < 1000 || count[api.KnockOut] < 1000 || errors[api.ErrOver] < 10 {
		t.Errorf("too few knocks or errors: %v, %v", count, errors)
	}
}
