package stroke_test

import (
	"math"
	"testing"

	"roquet/api"
	"roquet/stroke"
)

// touching returns a state of two balls that are in contact along Y, and one that is far away.
func touching() api.State {
	return state(ball{at: at(50000, 60000)}, ball{at: at(50000, 65892)}, ball{at: at(90000, 20000)})
}

// P4.3: a blow gives its momentum, along its aim, to its ball alone.
func TestStrikeAlone(t *testing.T) {
	g := ground(3, 100)
	for _, x := range []struct {
		aim   api.Point
		power int64
		want  api.Point
	}{
		{at(1, 0), 1, at(1, 0)},
		{at(0, -1), 200000, at(0, -200000)},
		{at(30, 40), 500000, at(300000, 400000)},
		{at(-far, far), 1000, at(-707, 707)},
		{at(-far, 0), api.MaxPower, at(-api.MaxPower, 0)},
	} {
		for kind := api.BlowStop; kind <= api.BlowPass; kind++ {
			s, knocks := mustStrike(t, g, touching(), api.Blow{Ball: 2, Aim: x.aim, Power: x.power, Kind: kind})
			want := with(touching(), func(s *api.State) { s.Motions[2].M, s.Who = x.want, 2 })
			if !sameState(s, want) || len(knocks) != 0 {
				t.Errorf("%v, kind %d: %v, %v", x, kind, s, knocks)
			}
		}
	}
}

// P4.3: behind a contact the ball follows by as much as its kind says.
func TestStrikeFollows(t *testing.T) {
	g := ground(3, 100)
	for kind, want := range []int64{20012, 50012, 120012, 200012} {
		s, knocks := mustStrike(t, g, touching(), api.Blow{Aim: at(0, 1), Power: 200000, Kind: kind})
		if s.Motions[0].M != at(0, want) || s.Motions[1].M != at(0, 179988) || s.Motions[2].M != at(0, 0) {
			t.Errorf("kind %d: %v", kind, s)
		}
		if !sameList(knocks, []api.Knock{{Kind: api.KnockBall, Ball: 0, Other: 1}}) {
			t.Errorf("kind %d: knocks %v", kind, knocks)
		}
	}
}

// P4.3: what follows is rounded towards 0, in X and in Y.
func TestStrikeFollowRounded(t *testing.T) {
	g := ground(3, 100)
	blow := api.Blow{Aim: at(-3, 4), Power: 1005, Kind: api.BlowStop}
	stop, _ := mustStrike(t, g, touching(), blow)
	blow.Kind = api.BlowDrive
	s, _ := mustStrike(t, g, touching(), blow)
	// The momentum of the blow is (-603, 804): 15 hundredths of it are -90.45 and 120.6.
	if want := plus(stop.Motions[0].M, at(-90, 120)); s.Motions[0].M != want {
		t.Errorf("%v, want %v", s.Motions[0].M, want)
	}
}

// P4.3: a ball that is struck away from one with which it is in contact does not follow.
func TestStrikeAway(t *testing.T) {
	for kind := api.BlowStop; kind <= api.BlowPass; kind++ {
		s, knocks := mustStrike(t, ground(3, 100), touching(), api.Blow{Aim: at(0, -1), Power: 200000, Kind: kind})
		if s.Motions[0].M != at(0, -200000) || s.Motions[1].M != at(0, 0) || len(knocks) != 0 {
			t.Errorf("kind %d: %v, %v", kind, s, knocks)
		}
	}
}

// P4.3: a ball that jumps flies, and meets nothing at once.
func TestStrikeJumps(t *testing.T) {
	s, knocks := mustStrike(t, ground(3, 100), touching(), api.Blow{Aim: at(0, 1), Power: 200000, Kind: api.BlowJump})
	want := with(touching(), func(s *api.State) { s.Motions[0].M, s.Flies = at(0, 200000), 8 })
	if !sameState(s, want) || len(knocks) != 0 {
		t.Errorf("%v, %v", s, knocks)
	}
}

// P4.3: Who, Flies and Tick begin anew; rests and what is out stay.
func TestStrikeBeginsAnew(t *testing.T) {
	before := with(touching(), func(s *api.State) {
		s.Who, s.Flies, s.Tick, s.Out[2] = 2, 5, 4000, true
		s.Motions[0].Rest, s.Motions[2].At = at(11, -12), at(-3000, 20000)
	})
	s, _ := mustStrike(t, ground(3, 100), before, api.Blow{Ball: 0, Aim: at(1, 0), Power: 500, Kind: api.BlowDrive})
	want := with(before, func(s *api.State) { s.Who, s.Flies, s.Tick, s.Motions[0].M = 0, 0, 0, at(500, 0) })
	if !sameState(s, want) {
		t.Errorf("%v, want %v", s, want)
	}
}

// P4.3: balls that are out are not met; those that are in contact are settled in order, and told in order.
func TestStrikeSettles(t *testing.T) {
	g := ground(4, 0)
	row := state(ball{at: at(50000, 71784)}, ball{at: at(50000, 65892)}, ball{at: at(50000, 60000)}, ball{at: at(50000, 77676)})
	blow := api.Blow{Ball: 2, Aim: at(0, 1), Power: 200000, Kind: api.BlowStop}
	// The pairs 0 1 and 0 3 come before 1 2, and are still then.
	s, knocks := mustStrike(t, g, row, blow)
	if !sameList(knocks, []api.Knock{{Kind: api.KnockBall, Ball: 1, Other: 2}}) || s.Motions[1].M != at(0, 179988) || s.Motions[0].M != at(0, 0) {
		t.Errorf("a row: %v, %v", s, knocks)
	}
	row = state(ball{at: at(50000, 60000)}, ball{at: at(50000, 65892)}, ball{at: at(50000, 71784)}, ball{at: at(50000, 77676)})
	blow.Ball = 0
	s, knocks = mustStrike(t, g, row, blow)
	want := []api.Knock{{Kind: api.KnockBall, Ball: 0, Other: 1}, {Kind: api.KnockBall, Ball: 1, Other: 2}, {Kind: api.KnockBall, Ball: 2, Other: 3}}
	if !sameList(knocks, want) || s.Motions[3].M.Y < 100000 {
		t.Errorf("a row in order: %v, %v", s, knocks)
	}
	row.Out[1] = true
	if s, knocks = mustStrike(t, g, row, blow); len(knocks) != 0 || s.Motions[0].M != at(0, 200000) {
		t.Errorf("a ball that is out is met: %v, %v", s, knocks)
	}
}

// P4.3: a blow that is not valid.
func TestStrikeErrArg(t *testing.T) {
	g := ground(3, 100)
	good := api.Blow{Ball: 2, Aim: at(1, 0), Power: 1, Kind: api.BlowJump}
	bad := func(change func(b *api.Blow)) {
		t.Helper()
		b := good
		change(&b)
		moving := with(touching(), func(s *api.State) { s.Motions[0].M, s.Out[2] = at(1, 0), true })
		for _, before := range []api.State{touching(), moving} {
			if s, knocks, e := stroke.Strike(g, before, b); e != api.ErrArg || !isZero(s) || len(knocks) != 0 {
				t.Errorf("%v: %v, %v, error %d", b, s, knocks, e)
			}
		}
	}
	mustStrike(t, g, touching(), good)
	for _, n := range append(badNumbers(), -1, 3) {
		bad(func(b *api.Blow) { b.Ball = int(n) })
	}
	for _, n := range append(badNumbers(), far+1, -far-1) {
		bad(func(b *api.Blow) { b.Aim.X = n })
		bad(func(b *api.Blow) { b.Aim.Y = n })
	}
	bad(func(b *api.Blow) { b.Aim = at(0, 0) })
	for _, n := range append(badNumbers(), 0, -1, api.MaxPower+1) {
		bad(func(b *api.Blow) { b.Power = n })
	}
	for _, n := range append(badNumbers(), -1, 5) {
		bad(func(b *api.Blow) { b.Kind = int(n) })
	}
	if _, _, e := stroke.Strike(g, touching(), api.Blow{Ball: math.MaxInt, Kind: math.MinInt}); e != api.ErrArg {
		t.Errorf("a blow that is not valid at all: error %d", e)
	}
}

// P4.3: what moves cannot be struck, nor what is out.
func TestStrikeErrState(t *testing.T) {
	g := ground(3, 100)
	blow := api.Blow{Ball: 1, Aim: at(1, 0), Power: 1}
	for _, change := range []func(s *api.State){
		func(s *api.State) { s.Motions[1].M = at(1, 0) },
		func(s *api.State) { s.Motions[2].M = at(0, -1) },
		func(s *api.State) { s.Out[1] = true },
	} {
		before := with(touching(), change)
		if s, knocks, e := stroke.Strike(g, before, blow); e != api.ErrState || !isZero(s) || len(knocks) != 0 {
			t.Errorf("%v: %v, %v, error %d", before, s, knocks, e)
		}
	}
	// Another ball may be out.
	mustStrike(t, g, with(touching(), func(s *api.State) { s.Out[0], s.Out[2] = true, true }), blow)
}

// P4.3: the greatest blows stay within the limits, whatever they meet.
func TestStrikeGreatest(t *testing.T) {
	g := ground(8, 0)
	g.Bounce.Rebound = api.MaxRebound
	var row []ball
	for i := range int64(8) {
		g.Balls[i].Mass = []int64{500, 400}[i%2]
		row = append(row, ball{at: at(50000, 60000+5892*i)})
	}
	for kind := api.BlowStop; kind <= api.BlowJump; kind++ {
		for i := range 8 {
			mustStrike(t, g, state(row...), api.Blow{Ball: i, Aim: at(0, 1), Power: api.MaxPower, Kind: kind})
			mustStrike(t, g, state(row...), api.Blow{Ball: i, Aim: at(far, far-1), Power: api.MaxPower, Kind: kind})
		}
	}
}

// P4.3: blows do what their definition says.
func TestStrikeModel(t *testing.T) {
	r := dice(41)
	met := 0
	for range 10000 {
		g := anyGround(r)
		s := anyState(r, g)
		if r.Intn(8) > 0 {
			for i := range s.Motions {
				s.Motions[i].M = at(0, 0)
			}
		}
		size := int64(1) << roll(r, 1, 22)
		b := api.Blow{Ball: r.Intn(len(g.Balls)), Aim: at(roll(r, -size, size), roll(r, 1, size)), Power: roll(r, 1, api.MaxPower), Kind: r.Intn(5)}
		m := modelOf(g, s)
		want := m.strike(b)
		next, knocks, e := stroke.Strike(g, s, b)
		if want != api.OK {
			m.s, m.knocks = api.State{}, nil
		}
		if e != want || !sameState(next, m.s) || !sameList(knocks, m.knocks) {
			t.Fatalf("Strike(%v, %v, %v): %v, %v, error %d, want %v, %v, error %d", g, s, b, next, knocks, e, m.s, m.knocks, want)
		}
		met += len(knocks)
	}
	if met < 500 {
		t.Errorf("only %d knocks", met)
	}
}
