package club_test

import (
	"math/rand"
	"testing"

	"roquet/api"
	"roquet/club"
	"roquet/game"
	"roquet/lawn"
)

// anySetup returns a setup that is valid: a small lawn with wide hoops, on which much happens.
func anySetup(r *rand.Rand) api.Setup {
	s := api.Setup{Code: r.Intn(4), Book: anyBook(r), Limit: from(r, 0, 20)}
	c, _ := game.Laws(s.Code)
	if c.Bisques {
		s.Halves = [2]int{r.Intn(5), among(r, 0, 1, 40)}
	}
	widest := int64(0)
	for range 4 {
		b := api.Ball{Mass: from(r, api.MinMass, api.MaxMass), Radius: from(r, api.MinRadius, api.MaxGirth)}
		s.Ground.Balls = append(s.Ground.Balls, b)
		widest = max(widest, b.Radius)
	}
	s.Ground.Bounce = api.Bounce{Rebound: from(r, 0, api.MaxRebound), Drag: from(r, 0, api.MaxLost)}
	s.Ground.Lawn = anyLawn(r, 2*widest)
	for range c.Hoops {
		s.Course = append(s.Course, api.Gate{Hoop: r.Intn(len(s.Ground.Lawn.Hoops)), Forward: r.Intn(2) == 0})
	}
	return s
}

// anyLawn returns a lawn that is valid, whose hoops have at least a gap.
func anyLawn(r *rand.Rand, gap int64) api.Lawn {
	for {
		l := api.Lawn{Name: "any", Wide: from(r, api.MinSide, 100000), Long: from(r, api.MinSide, 100000), Yard: among[int64](r, 0, 1, 3000, 8000, 16384), NX: 1 + r.Intn(2), NY: 1 + r.Intn(2)}
		l.Peg = api.Disc{At: at(from(r, 0, l.Wide), from(r, 0, l.Long)), R: from(r, 1, 4000)}
		for range 1 + r.Intn(3) {
			l.Hoops = append(l.Hoops, api.Hoop{X: from(r, 0, l.Wide), Y: from(r, 0, l.Long), Gap: gap + 2*from(r, 0, 5000), Wire: from(r, 1, 500), Along: r.Intn(2) == 0})
		}
		for range l.NX * l.NY {
			l.Cells = append(l.Cells, api.Cell{Drag: from(r, 4000, 15000), DX: from(r, -2000, 2000), DY: from(r, -2000, 2000)})
		}
		if lawn.Check(l) == api.OK {
			return l
		}
	}
}

// anyBook returns a book in which some strokes are faults.
func anyBook(r *rand.Rand) api.Book {
	b := laws()
	switch r.Intn(3) {
	case 0:
		b.Articles = append([]api.Article{
			{Number: 1, If: []string{"push"}, Then: "bad"},
			{Number: 2, If: []string{"bad"}, Unless: []string{"crush"}, Then: "fault"},
		}, b.Articles...)
	case 1:
		b.Articles = b.Articles[1:]
	}
	return b
}

// anyGame returns a legal position of a code.
func anyGame(r *rand.Rand, code int) api.Game {
	c, _ := game.Laws(code)
	for {
		g := api.Game{Code: code, Side: r.Intn(2), Phase: among(r, 0, 0, 1, 1, 2, 2, 2, 3, 3, 4), Ball: none, Taken: none, Last: none, Winner: -1}
		g.Turns = among(r, 0, 1, 2, 3, 4, 5, 6, 7, 100, 101, api.MaxTurns)
		for i := range min(g.Turns, 4) {
			ball := (i + 2*r.Intn(2)) % 4
			g.In[ball], g.Points[ball] = true, among(r, 0, 1, 5, c.Hoops-1, c.Hoops, c.Hoops)
			if r.Intn(8) == 0 {
				g.In[ball], g.Points[ball] = false, api.PeggedOut
			}
		}
		if c.Bisques {
			g.Halves = [2]int{r.Intn(5), among(r, 0, 1, 2, 40)}
		}
		if c.Lifts[0] > 0 {
			g.Lift = [2]bool{r.Intn(2) == 0, r.Intn(2) == 0}
		}
		inTurn(r, &g, c)
		if game.Check(g) == api.OK {
			return g
		}
	}
}

// inTurn gives a position what its phase asks for, often such that it is legal.
func inTurn(r *rand.Rand, g *api.Game, c api.Code) {
	switch g.Phase {
	case api.PhaseStart:
		if c.Bisques && r.Intn(3) > 0 {
			g.Last = among(r, 1-g.Side, 3-g.Side)
		}
	case api.PhaseOver:
		g.Winner = r.Intn(2)
		for _, ball := range []int{g.Winner, g.Winner + 2} {
			g.In[ball], g.Points[ball] = false, api.PeggedOut
		}
	default:
		g.Ball = among(r, g.Side, g.Side+2)
		g.Began = r.Intn(g.Points[g.Ball] + 1)
		for ball := range g.Dead {
			g.Dead[ball] = ball != g.Ball && g.In[ball] && r.Intn(3) == 0
		}
		if g.Phase == api.PhaseCroquet {
			g.Taken = r.Intn(4)
			g.Dead[g.Taken] = false
		}
		g.Half = c.Bisques && r.Intn(4) == 0
	}
}

// anyPlaces returns places at which all balls that are in play may lie; often before their hoops, or near to something else.
func anyPlaces(r *rand.Rand, s api.Setup, g api.Game) []api.Point {
	places := make([]api.Point, 4)
	var lies [4]bool
	for ball := range places {
		for g.In[ball] && !lies[ball] {
			p := anyPlace(r, s.Ground.Lawn, places[:ball])
			if g.Points[ball] < len(s.Course) && r.Intn(3) == 0 {
				p = beforeGate(r, s, s.Course[g.Points[ball]])
			}
			lies[ball] = mayLie(s, ball, p, lies, places)
			places[ball] = p
		}
	}
	return places
}

// anyPlace returns a place about a lawn; often one near to the peg or to another ball, or in the yard-line area.
func anyPlace(r *rand.Rand, l api.Lawn, balls []api.Point) api.Point {
	p := at(from(r, 0, l.Wide), from(r, 0, l.Long))
	near := func(q api.Point) api.Point { return at(q.X+from(r, -12000, 12000), q.Y+from(r, -12000, 12000)) }
	switch r.Intn(6) {
	case 0:
		return near(l.Peg.At)
	case 1:
		if len(balls) > 0 {
			return near(among(r, balls...))
		}
	case 2:
		return among(r, at(0, p.Y), at(p.X, l.Long), at(l.Yard, p.Y), at(p.X, l.Yard), at(p.X, l.Yard-1))
	}
	return p
}

// beforeGate returns a place from which a ball may run a gate straight.
func beforeGate(r *rand.Rand, s api.Setup, gate api.Gate) api.Point {
	h, ahead := s.Ground.Lawn.Hoops[gate.Hoop], through(s, gate)
	before, beside := from(r, 0, 12000), from(r, -h.Gap/6, h.Gap/6)
	return at(h.X-ahead.X*before+ahead.Y*beside, h.Y-ahead.Y*before+ahead.X*beside)
}

// through returns the direction in which a gate is run.
func through(s api.Setup, gate api.Gate) api.Point {
	ahead := int64(-1)
	if gate.Forward {
		ahead = 1
	}
	if s.Ground.Lawn.Hoops[gate.Hoop].Along {
		return at(ahead, 0)
	}
	return at(0, ahead)
}

// anyMatch returns a match and its model: a new one, or one from any position on.
func anyMatch(t *testing.T, r *rand.Rand) (*club.Match, *model) {
	t.Helper()
	s := anySetup(r)
	if r.Intn(3) == 0 {
		g, _ := game.New(s.Code, s.Halves)
		return mustNew(t, s), &model{s: s, g: g}
	}
	g := anyGame(r, s.Code)
	places := anyPlaces(r, s, g)
	return mustResume(t, s, g, places), &model{s: s, g: g, at: [4]api.Point(places)}
}

// anyDoing returns a doing that is mostly possible.
func anyDoing(r *rand.Rand, x *model) api.Doing {
	if x.g.Phase == api.PhaseStart {
		return anyStart(r, x)
	}
	if r.Intn(12) == 0 {
		return pass()
	}
	return anyStroke(r, x)
}

// anyStart returns a doing with which a turn may begin.
func anyStart(r *rand.Rand, x *model) api.Doing {
	l, _ := game.Moves(x.g)
	move := among(r, l...)
	switch move.Kind {
	case api.MovePass:
		return pass()
	case api.MoveBisque:
		return bisque()
	case api.MoveHalf:
		return half()
	}
	d := api.Doing{Kind: api.DoChoose, Ball: move.Ball, Lift: move.Lift}
	lawn := x.s.Ground.Lawn
	d.At = at(from(r, lawn.Yard, lawn.Wide/2), lawn.Yard)
	if r.Intn(2) == 0 {
		d.At = at(lawn.Wide-d.At.X, lawn.Long-d.At.Y)
	}
	if r.Intn(12) == 0 {
		d.At = at(from(r, -10, lawn.Wide+10), d.At.Y)
	}
	return d
}

// anyStroke returns a stroke at something on the lawn, or at nothing.
func anyStroke(r *rand.Rand, x *model) api.Doing {
	d := api.Doing{Kind: api.DoStroke, Power: from(r, 1, 1<<from(r, 18, 21)), Blow: r.Intn(5), Marks: anyMarks(r)}
	b := max(x.g.Ball, 0)
	here := x.at[b]
	if x.g.Phase == api.PhaseCroquet {
		taken := x.at[x.g.Taken]
		d.At = at(taken.X+from(r, -9, 9)*1000, taken.Y+from(r, -9, 9)*1000)
		here = d.At
	}
	d.Aim = anyAim(r, x, b, here)
	return d
}

// anyAim returns a direction in which a ball may be struck from a place.
func anyAim(r *rand.Rand, x *model, ball int, here api.Point) api.Point {
	l := x.s.Ground.Lawn
	goal := at(from(r, 0, l.Wide), from(r, 0, l.Long))
	switch r.Intn(8) {
	case 0, 1, 2:
		goal = x.at[r.Intn(4)]
	case 3, 4, 5, 6:
		p := x.g.Points[ball]
		if p >= len(x.s.Course) {
			goal = l.Peg.At
			break
		}
		if r.Intn(2) == 0 {
			return through(x.s, x.s.Course[p])
		}
		h := l.Hoops[x.s.Course[p].Hoop]
		goal = at(h.X, h.Y)
	}
	return at(goal.X-here.X, goal.Y-here.Y)
}

// anyMarks returns some valid marks, mostly few.
func anyMarks(r *rand.Rand) []api.Mark {
	var l []api.Mark
	for range among(r, 0, 0, 0, 1, 1, 1, 1, 2, 4) {
		begin := from(r, 0, 100)
		l = append(l, mark(among(r, 0, 0, 1, 2, 3, 4, 5), r.Intn(4), begin, begin+from(r, 0, 30)))
	}
	return l
}

// spoilt returns a doing that is often an error, or has something that does not belong to its kind.
func spoilt(r *rand.Rand, d api.Doing) api.Doing {
	switch r.Intn(10) {
	case 0:
		d.Kind = r.Intn(6)
	case 1:
		d.Ball = r.Intn(6) - 1
	case 2:
		d.Lift = !d.Lift
	case 3:
		d.Half = !d.Half
	case 4:
		d.At = at(from(r, -1, 1)*(far+from(r, 0, 1)), from(r, -1, 1)*(far+from(r, 0, 1)))
	case 5:
		d.Aim = among(r, at(0, 0), at(far, -far), at(far+1, 0), at(1, 0))
	case 6:
		d.Power = among[int64](r, 0, -1, 1, api.MaxPower, api.MaxPower+1)
	case 7:
		d.Blow = r.Intn(7) - 1
	case 8:
		d.Marks = append(anyMarks(r), mark(r.Intn(7), r.Intn(5), from(r, -1, 2), from(r, 0, 3)))
	case 9:
		d.Marks = make([]api.Mark, 64+r.Intn(2))
	}
	return d
}
