package stroke_test

import (
	"math"
	"testing"

	"roquet/api"
	"roquet/lawn"
	"roquet/stroke"
)

// P4.1: the error of a ground is that of its lawn, then that of the number of balls, then that of balls and bounce.
func TestCheckGround(t *testing.T) {
	for _, x := range []struct {
		name   string
		change func(g *api.Ground)
		want   api.Errno
	}{
		{"as it is", func(g *api.Ground) {}, api.OK},
		{"one ball", func(g *api.Ground) { g.Balls = g.Balls[:1] }, api.OK},
		{"eight balls", func(g *api.Ground) { g.Balls = ground(8, 0).Balls }, api.OK},
		{"no balls", func(g *api.Ground) { g.Balls = nil }, api.ErrMany},
		{"an empty list of balls", func(g *api.Ground) { g.Balls = []api.Ball{} }, api.ErrMany},
		{"nine balls", func(g *api.Ground) { g.Balls = ground(9, 0).Balls }, api.ErrMany},
		{"nine balls that are not valid", func(g *api.Ground) { g.Balls = make([]api.Ball, 9) }, api.ErrMany},
		{"the least balls", func(g *api.Ground) { g.Balls[1] = api.Ball{Mass: 400, Radius: 1000} }, api.OK},
		{"the greatest balls", func(g *api.Ground) { g.Balls[1] = api.Ball{Mass: 500, Radius: 4096} }, api.OK},
		{"a first ball that is too light", func(g *api.Ground) { g.Balls[0].Mass = 399 }, api.ErrArg},
		{"a last ball that is too heavy", func(g *api.Ground) { g.Balls[1].Mass = 501 }, api.ErrArg},
		{"a ball that is too small", func(g *api.Ground) { g.Balls[1].Radius = 999 }, api.ErrArg},
		{"a ball that is too great", func(g *api.Ground) { g.Balls[1].Radius = 4097 }, api.ErrArg},
		{"the greatest bounce", func(g *api.Ground) { g.Bounce = api.Bounce{Rebound: 950, Drag: 300} }, api.OK},
		{"too much rebound", func(g *api.Ground) { g.Bounce.Rebound = 951 }, api.ErrArg},
		{"a drag below 0", func(g *api.Ground) { g.Bounce.Drag = -1 }, api.ErrArg},
		{"no hoops", func(g *api.Ground) { g.Lawn.Hoops = nil }, api.ErrMany},
		{"a lawn without a name, and no balls", func(g *api.Ground) { g.Lawn.Name, g.Balls = "", nil }, api.ErrArg},
		{"no hoops, and a ball that is not valid", func(g *api.Ground) { g.Lawn.Hoops, g.Balls[0].Mass = nil, 0 }, api.ErrMany},
	} {
		g := groundWith(ground(2, 100), x.change)
		if e := stroke.CheckGround(g); e != x.want {
			t.Errorf("%s: error %d, want %d", x.name, e, x.want)
		}
		if e := lawn.Check(g.Lawn); e != api.OK && e != x.want {
			t.Errorf("%s: %d is not the error of the lawn, %d", x.name, x.want, e)
		}
	}
}

// stateCases are changes of a still state of two balls, and the errors that they make.
func stateCases() map[string]struct {
	change func(s *api.State)
	want   api.Errno
} {
	type c = struct {
		change func(s *api.State)
		want   api.Errno
	}
	return map[string]c{
		"as it is":                {func(s *api.State) {}, api.OK},
		"no motions":              {func(s *api.State) { s.Motions = nil }, api.ErrEqual},
		"too few motions":         {func(s *api.State) { s.Motions = s.Motions[:1] }, api.ErrEqual},
		"too many motions":        {func(s *api.State) { s.Motions = append(s.Motions, s.Motions[0]) }, api.ErrEqual},
		"nothing in Out":          {func(s *api.State) { s.Out = nil }, api.ErrEqual},
		"too few in Out":          {func(s *api.State) { s.Out = s.Out[:1] }, api.ErrEqual},
		"too many in Out":         {func(s *api.State) { s.Out = append(s.Out, false) }, api.ErrEqual},
		"Out and Who":             {func(s *api.State) { s.Out, s.Who = s.Out[:1], 7 }, api.ErrEqual},
		"a motion, and no Out":    {func(s *api.State) { s.Motions[0].At, s.Out = at(-1, 0), nil }, api.ErrEqual},
		"corners":                 {func(s *api.State) { s.Motions[0].At, s.Motions[1].At = at(0, 0), at(100000, 200000) }, api.OK},
		"the same place":          {func(s *api.State) { s.Motions[0].At = s.Motions[1].At }, api.OK},
		"in a post":               {func(s *api.State) { s.Motions[0].At = at(50000, 100000) }, api.OK},
		"off at the left":         {func(s *api.State) { s.Motions[0].At = at(-1, 60000) }, api.ErrArg},
		"off at the right":        {func(s *api.State) { s.Motions[1].At = at(100001, 60000) }, api.ErrArg},
		"off before":              {func(s *api.State) { s.Motions[0].At = at(50000, -1) }, api.ErrArg},
		"off behind":              {func(s *api.State) { s.Motions[1].At = at(50000, 200001) }, api.ErrArg},
		"off, but out":            {func(s *api.State) { s.Motions[0].At, s.Out[0] = at(-1, 60000), true }, api.OK},
		"far off, but out":        {func(s *api.State) { s.Motions[0].At, s.Out[0] = at(-far, far), true }, api.OK},
		"out at no place":         {func(s *api.State) { s.Motions[0].At, s.Out[0] = at(-far-1, 0), true }, api.ErrArg},
		"out on the lawn":         {func(s *api.State) { s.Out[1] = true }, api.OK},
		"all out":                 {func(s *api.State) { s.Out[0], s.Out[1] = true, true }, api.OK},
		"out, and moves along X":  {func(s *api.State) { s.Out[1], s.Motions[1].M = true, at(1, 0) }, api.ErrArg},
		"out, and moves along Y":  {func(s *api.State) { s.Out[1], s.Motions[1].M = true, at(0, -1) }, api.ErrArg},
		"the greatest momentum":   {func(s *api.State) { s.Motions[0].M = at(fast, -fast) }, api.OK},
		"too great a momentum":    {func(s *api.State) { s.Motions[1].M = at(0, fast+1) }, api.ErrArg},
		"rests at their limits":   {func(s *api.State) { s.Motions[1].Rest = at(-14400, 14399) }, api.OK},
		"too great a rest":        {func(s *api.State) { s.Motions[1].Rest = at(14400, 0) }, api.ErrArg},
		"out with a rest":         {func(s *api.State) { s.Out[1], s.Motions[1].Rest = true, at(5, 5) }, api.OK},
		"out with too great one":  {func(s *api.State) { s.Out[1], s.Motions[1].Rest = true, at(0, -14401) }, api.ErrArg},
		"the last ball":           {func(s *api.State) { s.Who = 1 }, api.OK},
		"behind the last ball":    {func(s *api.State) { s.Who = 2 }, api.ErrArg},
		"before the first ball":   {func(s *api.State) { s.Who = -1 }, api.ErrArg},
		"no ball at all":          {func(s *api.State) { s.Who = math.MinInt }, api.ErrArg},
		"flies longest":           {func(s *api.State) { s.Flies = 8 }, api.OK},
		"flies too long":          {func(s *api.State) { s.Flies = 9 }, api.ErrArg},
		"flies too short":         {func(s *api.State) { s.Flies = -1 }, api.ErrArg},
		"the last tick":           {func(s *api.State) { s.Tick = 4000 }, api.OK},
		"behind the last tick":    {func(s *api.State) { s.Tick = 4001 }, api.ErrArg},
		"before the first tick":   {func(s *api.State) { s.Tick = -1 }, api.ErrArg},
		"a tick that is no tick":  {func(s *api.State) { s.Tick = math.MaxInt }, api.ErrArg},
		"who is out, and flies":   {func(s *api.State) { s.Out[0], s.Flies = true, 3 }, api.OK},
		"a motion for other mass": {func(s *api.State) { s.Motions[0].Rest = at(15000, 0) }, api.ErrArg},
	}
}

// P4.1: the error of a state is that of its lists, then that of all else.
func TestCheckState(t *testing.T) {
	for name, x := range stateCases() {
		s := with(state(ball{at: at(50000, 60000)}, ball{at: at(80000, 60000)}), x.change)
		if e := stroke.CheckState(ground(2, 100), s); e != x.want {
			t.Errorf("%s: error %d, want %d", name, e, x.want)
		}
	}
}

// P4.1: each motion has to be valid for the ball whose motion it is.
func TestCheckStateOwnBall(t *testing.T) {
	g := ground(2, 0)
	g.Balls[0].Mass, g.Balls[1].Mass = 400, 500
	s := state(ball{at: at(50000, 60000)}, ball{at: at(80000, 60000)})
	s.Motions[1].Rest = at(15999, 0)
	if e := stroke.CheckState(g, s); e != api.OK {
		t.Errorf("a rest of the heavy ball: error %d", e)
	}
	s.Motions[0], s.Motions[1] = s.Motions[1], s.Motions[0]
	if e := stroke.CheckState(g, s); e != api.ErrArg {
		t.Errorf("a rest of the heavy ball for the light one: error %d", e)
	}
}

// P4.1: numbers of any amount are told from valid ones.
func TestCheckAnyNumber(t *testing.T) {
	for _, n := range badNumbers() {
		for _, change := range []func(g *api.Ground){
			func(g *api.Ground) { g.Balls[0].Mass = n },
			func(g *api.Ground) { g.Balls[1].Radius = n },
			func(g *api.Ground) { g.Bounce.Rebound = n },
			func(g *api.Ground) { g.Bounce.Drag = n },
			func(g *api.Ground) { g.Lawn.Wide = n },
		} {
			if e := stroke.CheckGround(groundWith(ground(2, 0), change)); e != api.ErrArg {
				t.Errorf("CheckGround with %d: error %d", n, e)
			}
		}
		for _, change := range []func(s *api.State){
			func(s *api.State) { s.Motions[0].At.X = n },
			func(s *api.State) { s.Motions[1].At.Y, s.Out[1] = n, true },
			func(s *api.State) { s.Motions[0].M.Y = n },
			func(s *api.State) { s.Motions[1].Rest.X = n },
			func(s *api.State) { s.Who = int(n) },
			func(s *api.State) { s.Flies = int(n) },
			func(s *api.State) { s.Tick = int(n) },
		} {
			s := with(state(ball{at: at(50000, 60000)}, ball{at: at(80000, 60000)}), change)
			if e := stroke.CheckState(ground(2, 0), s); e != api.ErrArg {
				t.Errorf("CheckState with %d: error %d", n, e)
			}
		}
	}
}
