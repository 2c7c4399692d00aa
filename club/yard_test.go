package club_test

import (
	"slices"
	"testing"

	"roquet/api"
	"roquet/lawn"
)

// yard returns a change of how far the yard line is inside of the boundary.
func yard(n int64) func(*api.Setup) { return func(s *api.Setup) { s.Ground.Lawn.Yard = n } }

// P12.2: balls that leave, or come to lie in the yard-line area, are put on the yard line.
func TestYardLine(t *testing.T) {
	on, l := turnOf(api.CodeShort), spread()
	left, up := at(-1, 0), at(0, 1)
	passed, chosen, halved := api.Move{Kind: api.MovePass}, api.Move{Kind: api.MoveChoose}, api.Move{Kind: api.MoveHalf, Ball: 1}
	last := func(g *api.Game) { g.Last, g.Halves[1] = 1, 1 }
	for _, x := range []struct {
		name   string
		yard   int64
		g      api.Game
		places []api.Point
		d      api.Doing
		move   api.Move
		want   []any // balls, and where they lie behind it
	}{
		{"the striker's ball off the lawn", 5000, on, put(l, 0, at(9000, 70000)), strike(left, 1000000), struck(off(0)), []any{0, at(5000, 70000)}},
		{"the striker's ball in the area", 5000, on, put(l, 0, at(9000, 70000)), strike(left, 500000), struck(), []any{0, at(5000, 70000)}},
		{"the striker's ball on the line", 5000, on, put(l, 0, at(5000, 70000)), strike(left, 1), struck(), []any{0, at(5000, 70000)}},
		{"a ball that leaves", 5000, on, put(l, 0, at(20000, 70000), 1, at(9000, 70000)), strike(left, 1500000), struck(hit(1), off(1)), []any{1, at(5000, 70000)}},
		{"off the lawn where another ball is near", 5000, on, put(l, 0, at(8000, 54000), 3, at(5000, 75000)), strike(at(-1, 2), 1200000), struck(off(0)), []any{0, at(5000, 69108), 3, at(5000, 75000)}},
		{"other balls in the area, in a pass", 5000, on, put(l, 1, at(4999, 60000), 2, at(60000, 199000), 3, at(0, 0)), pass(), passed, []any{0, l[0], 1, at(5000, 60000), 2, at(60000, 195000), 3, at(5000, 5000)}},
		{"the striker's ball in the area, in a pass", 5000, on, put(l, 0, at(98000, 60000)), pass(), passed, []any{0, at(95000, 60000)}},
		{"balls in the area, in a choice", 5000, startOf(api.CodeShort), put(l, 0, at(98000, 60000), 2, at(2000, 60000)), choose(0, at(1, 1)), chosen, []any{0, at(98000, 60000), 2, at(5000, 60000)}},
		{"balls in the area, in a bisque", 5000, startOf(api.CodeShort, last), put(l, 0, at(98000, 60000), 1, at(2000, 60000)), half(), halved, []any{0, at(95000, 60000), 1, at(2000, 60000)}},
		{"a ball in the area, in a fault", 5000, on, put(l, 0, at(1000, 70000)), strike(at(1, 0), 1000000, double()...), struck(fault()), []any{0, at(5000, 70000)}},
		{"the striker's ball in the area, as its turn goes on", 5000, on, put(l, 0, at(2000, 60000), 1, at(2000, 68000)), strike(up, 500000), struck(hit(1)), []any{0, at(2000, 62157), 1, at(5000, 71808)}},
		{"two balls with one spot", 16384, on, put(l, 2, at(9000, 9000), 3, at(2000, 2000)), pass(), passed, []any{2, at(16384, 16384), 3, at(22276, 16384)}},
		{"two balls with one spot, the other way round", 16384, on, put(l, 1, at(2000, 2000), 2, at(9000, 9000)), pass(), passed, []any{1, at(16384, 16384), 2, at(22276, 16384)}},
		{"a ball that is to be put itself is in the way until then", 8000, on, put(l, 1, at(3000, 70000), 2, at(7500, 74000)), pass(), passed, []any{1, at(8000, 68129), 2, at(8000, 74021)}},
	} {
		m := mustResume(t, setupWith(yard(x.yard)), x.g, x.places)
		var why []int
		if len(x.d.Marks) > 0 {
			why = []int{10}
		}
		done(t, x.name, m, x.d, x.move, why)
		if p := m.Places(); !slices.Equal(p, put(p, x.want...)) {
			t.Errorf("%s: %v, want %v", x.name, p, x.want)
		}
	}
}

// P12.2: the striker's ball is put on the yard line although its turn goes on, if it has left the lawn.
func TestOffAndOn(t *testing.T) {
	s := setupWith(gate(0, 0, false), func(s *api.Setup) { s.Ground.Lawn.Hoops[0].Y = 8000 })
	on := turnOf(api.CodeShort)
	m := mustResume(t, s, on, put(spread(), 0, at(50000, 14000)))
	done(t, "a hoop, and then off the lawn", m, strike(at(0, -1), 1500000), struck(hoop(0), off(0)), nil, put(spread(), 0, at(50000, 5000))...)
	if g := m.Game(); g.Ball != 0 || g.Phase != api.PhaseContinue {
		t.Errorf("a hoop, and then off the lawn: %v", g)
	}
	// In the area, but not out, it stays.
	m = mustResume(t, s, on, put(spread(), 0, at(50000, 14000)))
	mustDo(t, m, strike(at(0, -1), 650000))
	if g, p := m.Game(), m.Places()[0]; g.Ball != 0 || g.Phase != api.PhaseContinue || p.Y >= 5000 || p.Y < 0 {
		t.Errorf("a hoop, and then in the area: %v, %v", g, p)
	}
	// With the turn it ends, too, that it may stay.
	y := m.Places()[0]
	done(t, "a pass", m, pass(), api.Move{Kind: api.MovePass}, nil, put(spread(), 0, at(y.X, 5000))...)
}

// P12.2: a ball that is out is in nobody's way, until it is put.
func TestTwoOut(t *testing.T) {
	s := setupWith(yard(0), func(s *api.Setup) {
		s.Ground.Balls[0].Mass, s.Ground.Balls[1].Mass, s.Ground.Bounce.Rebound = 500, 400, 500
	})
	m := mustResume(t, s, turnOf(api.CodeShort), put(spread(), 0, at(50000, 6000), 1, at(50000, 0)))
	done(t, "one behind the other", m, strike(at(0, -1), 2000000), struck(hit(1), off(1), off(0)), nil, put(spread(), 0, at(50000, 0), 1, at(55892, 0))...)
}

// P12.2: a ball that is pegged out is taken away, also if it has left the lawn, and is in nobody's way any more.
func TestPeggedOutAndAway(t *testing.T) {
	on := turnOf(api.CodeShort, points(6, 6, 0, 0), croquetOf(1))
	s := setupWith(func(s *api.Setup) { s.Ground.Lawn.Peg.At = at(50000, 12000) })
	l := put(spread(), 0, at(50000, 40000), 1, at(50000, 22000))
	m := mustResume(t, s, on, l)
	mustDo(t, m, croquet(at(50000, 40000), at(0, -1), 1500000))
	g, p := m.Game(), m.Places()
	if g.In[1] || g.Points[1] != api.PeggedOut || p[1] != (api.Point{}) || !g.In[0] {
		t.Errorf("a ball that is pegged out: %v, %v", g, p)
	}
	// The peg stands near to the boundary: the ball leaves behind it.
	s = setupWith(func(s *api.Setup) { s.Ground.Lawn.Peg = api.Disc{At: at(50000, 1300), R: 1200} })
	on = turnOf(api.CodeShort, points(6, 6, 6, 6))
	m = mustResume(t, s, on, put(spread(), 0, at(54000, 9000)))
	done(t, "off the lawn behind the peg", m, strike(at(0, -1), 1500000), struck(peg(0), off(0)), nil, put(spread(), 0, at(0, 0))...)
	if g := m.Game(); g.In[0] || g.Side != 1 {
		t.Errorf("off the lawn behind the peg: %v", g)
	}
}

// P12.10: balls in play lie on the lawn, and only the striker's ball may lie in the yard-line area; a ball that was put on the yard line touches none.
func TestOnTheLawn(t *testing.T) {
	r := dice(10)
	puts := 0
	for range 150 {
		m, x := anyMatch(t, r)
		for range 12 {
			before := m.Places()
			y, e := m.Do(anyDoing(r, &model{s: x.s, g: m.Game(), at: [4]api.Point(before)}))
			if e != api.OK {
				continue
			}
			g, l := m.Game(), m.Places()
			for ball, p := range l {
				checkOnTheLawn(t, x.s, g, ball, p)
			}
			for _, v := range y.Move.Events {
				if v.Kind == api.EventOff && g.In[v.Ball] && y.Fault == nil {
					checkPut(t, x.s, g, v.Ball, l)
					puts++
				}
			}
			if g.Phase == api.PhaseOver {
				break
			}
		}
	}
	if puts < 10 {
		t.Errorf("%d balls were put", puts)
	}
}

// checkOnTheLawn checks the place of a ball.
func checkOnTheLawn(t *testing.T, s api.Setup, g api.Game, ball int, p api.Point) {
	t.Helper()
	on, _ := lawn.On(s.Ground.Lawn, p)
	_, area, _ := lawn.Spot(s.Ground.Lawn, p)
	switch {
	case !g.In[ball] && p != api.Point{}:
		t.Errorf("the ball %d is not in play, and lies at %v", ball, p)
	case g.In[ball] && !on:
		t.Errorf("the ball %d lies at %v, off the lawn", ball, p)
	case g.In[ball] && area && ball != g.Ball:
		t.Errorf("the ball %d lies at %v, in the yard-line area", ball, p)
	}
}

// checkPut checks that a ball lies on the yard line, and touches no other one.
func checkPut(t *testing.T, s api.Setup, g api.Game, ball int, l []api.Point) {
	t.Helper()
	if _, e := lawn.Number(s.Ground.Lawn, l[ball]); e != api.OK {
		t.Errorf("the ball %d was put at %v, beside the yard line", ball, l[ball])
	}
	for other, q := range l {
		dx, dy, reach := q.X-l[ball].X, q.Y-l[ball].Y, s.Ground.Balls[ball].Radius+s.Ground.Balls[other].Radius
		if g.In[other] && other != ball && dx*dx+dy*dy < reach*reach {
			t.Errorf("the ball %d was put at %v, on the ball %d at %v", ball, l[ball], other, q)
		}
	}
}
