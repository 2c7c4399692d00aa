package club_test

import (
	"slices"
	"testing"

	"roquet/api"
)

// resume returns a match by the setup of the examples, in which the balls 0 and so on lie spread but for some.
func resume(t *testing.T, g api.Game, moved ...any) func(d api.Doing, l ...api.Event) api.Done {
	t.Helper()
	return func(d api.Doing, l ...api.Event) api.Done {
		t.Helper()
		return done(t, "a stroke", mustResume(t, setup(), g, put(spread(), moved...)), d, struck(l...), nil)
	}
}

// P12.2: what happens on the lawn is told as events, in order.
func TestEvents(t *testing.T) {
	on, up, down := turnOf(api.CodeShort), at(0, 1), at(0, -1)
	rover := with(on, points(6, 6, 6, 6))
	for _, x := range []struct {
		name   string
		g      api.Game
		moved  []any
		d      api.Doing
		knocks int
		events []api.Event
	}{
		{"nothing", on, nil, strike(up, 100000), 0, nil},
		{"a hit", on, []any{1, at(20000, 160000)}, strike(up, 500000), 1, []api.Event{hit(1)}},
		{"a hit of a ball before it", with(on, turnBy(2)), []any{2, at(20000, 140000)}, strike(up, 500000), 1, []api.Event{hit(0)}},
		{"a hit of a ball of the own side", with(on, turnBy(3)), []any{1, at(80000, 168000)}, strike(up, 500000), 1, []api.Event{hit(1)}},
		{"a ball that hits another one", on, []any{1, at(20000, 157000), 3, at(20000, 163500)}, strike(up, 500000), 2, []api.Event{hit(1)}},
		{"a hoop", on, []any{0, at(50000, 34000)}, strike(up, 600000), 0, []api.Event{hoop(0)}},
		{"half of a hoop", on, []any{0, at(50000, 34000)}, strike(up, 500000), 0, nil},
		{"the other half", on, []any{0, at(50000, 41000)}, strike(up, 500000), 0, []api.Event{hoop(0)}},
		{"a hoop from behind", on, []any{0, at(50000, 46000)}, strike(down, 800000), 0, nil},
		{"a hoop that is not due", with(on, points(1, 0, 0, 0)), []any{0, at(50000, 34000)}, strike(up, 600000), 0, nil},
		{"the second hoop", with(on, points(1, 0, 0, 0)), []any{0, at(24000, 100000)}, strike(at(1, 0), 600000), 0, []api.Event{hoop(0)}},
		{"the last hoop", with(on, points(5, 0, 0, 0)), []any{0, at(24000, 100000)}, strike(at(1, 0), 600000), 0, []api.Event{hoop(0)}},
		{"a hoop of a rover", rover, []any{0, at(50000, 34000)}, strike(up, 600000), 0, nil},
		{"a hoop of a rover from behind", rover, []any{0, at(50000, 46000)}, strike(down, 800000), 0, nil},
		{"past a hoop", on, []any{0, at(60000, 34000)}, strike(up, 800000), 0, nil},
		{"a wire", on, []any{0, at(46500, 34000)}, strike(up, 600000), 1, nil},
		{"the peg", on, []any{0, at(50000, 90000)}, strike(up, 500000), 1, []api.Event{peg(0)}},
		{"a ball that hits the peg", on, []any{0, at(50000, 86000), 1, at(50000, 93000)}, strike(up, 600000), 2, []api.Event{hit(1), peg(1)}},
		{"off the lawn", on, []any{0, at(50000, 5000)}, strike(down, 500000), 1, []api.Event{off(0)}},
		{"a ball that leaves", on, []any{0, at(50000, 13000), 1, at(50000, 6000)}, strike(down, 600000), 2, []api.Event{hit(1), off(1)}},
		{"a hoop, and then a hit", on, []any{0, at(50000, 34000), 1, at(50000, 52000)}, strike(up, 900000), 1, []api.Event{hoop(0), hit(1)}},
		{"a hit, and then the hoop of the other ball", on, []any{0, at(50000, 27000), 1, at(50000, 36000)}, strike(up, 900000), 1, []api.Event{hit(1), hoop(1)}},
		{"a hit, and a hoop that is not that of the other ball", with(on, points(0, 1, 0, 0)), []any{0, at(50000, 27000), 1, at(50000, 36000)}, strike(up, 900000), 1, []api.Event{hit(1)}},
		{"a hit, and a hoop of a rover", with(on, points(0, 6, 0, 0)), []any{0, at(50000, 27000), 1, at(50000, 36000)}, strike(up, 900000), 1, []api.Event{hit(1)}},
	} {
		y := resume(t, x.g, x.moved...)(x.d, x.events...)
		if y.Knocks != x.knocks {
			t.Errorf("%s: %v, want %d knocks", x.name, y, x.knocks)
		}
		if t.Failed() {
			t.Fatalf("%s: %v, want %v", x.name, y, x.events)
		}
	}
}

// P12.2: a hoop is run forward or backward, as the course says.
func TestBackward(t *testing.T) {
	s := setupWith(gate(0, 0, false), gate(3, 1, false))
	down, left := strike(at(0, -1), 800000), strike(at(-1, 0), 800000)
	on := turnOf(api.CodeShort)
	done(t, "back", mustResume(t, s, on, put(spread(), 0, at(50000, 46000))), down, struck(hoop(0)), nil)
	done(t, "forth", mustResume(t, s, on, put(spread(), 0, at(50000, 34000))), strike(at(0, 1), 800000), struck(), nil)
	third := with(on, points(3, 0, 0, 0))
	done(t, "back along X", mustResume(t, s, third, put(spread(), 0, at(36000, 100000))), left, struck(hoop(0)), nil)
	done(t, "the gate of the ball 2", mustResume(t, s, with(third, turnBy(2)), put(spread(), 2, at(50000, 46000))), down, struck(hoop(2)), nil)
}

// P12.2: a ball that rolls back through its hoop, or that was behind it already, has not run it.
func TestNotRun(t *testing.T) {
	on, up := turnOf(api.CodeShort), at(0, 1)
	s := setupWith(func(s *api.Setup) { s.Ground.Lawn.Peg.At = at(50000, 52000) })
	for _, x := range []struct {
		power  int64
		events []api.Event
		y      [2]int64 // between which it comes to lie
	}{
		{600000, []api.Event{hoop(0)}, [2]int64{42446, 47000}},
		{800000, []api.Event{hoop(0), peg(0)}, [2]int64{42446, 47000}},
		{950000, []api.Event{peg(0)}, [2]int64{37000, 42445}},
		{1200000, []api.Event{peg(0)}, [2]int64{20000, 34000}},
	} {
		m := mustResume(t, s, on, put(spread(), 0, at(50000, 34000)))
		done(t, "to the peg and back", m, strike(up, x.power), struck(x.events...), nil)
		if y := m.Places()[0].Y; y < x.y[0] || y > x.y[1] {
			t.Errorf("by %d the ball comes to (50000, %d)", x.power, y)
		}
	}
	done(t, "behind it", mustResume(t, setup(), on, put(spread(), 0, at(50000, 43000))), strike(up, 500000), struck(), nil)
}

// P12.2: between wires that are thicker than a ball, it is clear of the front as soon as it is seen from behind.
func TestThickWires(t *testing.T) {
	s := setupWith(func(s *api.Setup) { s.Ground.Lawn.Hoops[0].Wire = 3500 })
	m := mustResume(t, s, turnOf(api.CodeShort), put(spread(), 0, at(50000, 32000)))
	done(t, "thick wires", m, strike(at(0, 1), 700000), struck(hoop(0)), nil)
}

// P12.2: balls that are not in play are not met, and nothing happens to them.
func TestNotInPlay(t *testing.T) {
	on := turnOf(api.CodeShort, peggedOut(1), peggedOut(2))
	l := put(spread(), 0, at(9000, 9000), 1, at(0, 0), 2, at(0, 0))
	m := mustResume(t, setup(), on, l)
	x := done(t, "through (0, 0)", m, strike(at(-1, -1), 2000000), struck(off(0)), nil, put(l, 0, at(5000, 5000))...)
	if x.Knocks != 1 {
		t.Errorf("through (0, 0): %v", x)
	}
	m = mustNew(t, setup())
	mustDo(t, m, choose(0, at(5000, 5000)))
	done(t, "through (0, 0) in the first turn", m, strike(at(-1, -1), 2000000), struck(off(0)), nil, at(5000, 5000), at(0, 0), at(0, 0), at(0, 0))
}

// P12.2: in a croquet stroke the own ball is put beside the other one first.
func TestCroquet(t *testing.T) {
	on, l := turnOf(api.CodeShort, croquetOf(1)), spread()
	for _, x := range []struct {
		towards api.Point
		want    api.Point // where the own ball is put
		aim     api.Point // away from the other ball
	}{
		{at(40000, 150000), at(40000, 154108), at(0, -1)},
		{at(40000, 159999), at(40000, 154108), at(0, -1)},
		{at(0, 160000), at(34108, 160000), at(-1, 0)},
		{at(far, 160000), at(45892, 160000), at(1, 0)},
		{at(43000, 164000), at(43535, 164714), at(3, 4)},
	} {
		m := mustResume(t, setup(), on, l)
		// A blow that is too weak to roll.
		done(t, "put", m, croquet(x.towards, x.aim, 1), struck(), nil, put(l, 0, x.want)...)
		if g := m.Game(); g.Phase != api.PhaseContinue || !g.Dead[1] {
			t.Errorf("croquet towards %v: %v", x.towards, g)
		}
	}
	m := mustResume(t, setup(), on, l)
	y := done(t, "both balls", m, croquet(at(40000, 150000), at(0, 1), 500000), struck(hit(1)), nil)
	if p := m.Places(); y.Knocks != 1 || p[0].X != 40000 || p[1].X != 40000 || p[0].Y <= 154108 || p[1].Y <= 160000 {
		t.Errorf("both balls: %v, %v", y, p)
	}
	// In other phases it does not matter where At is.
	m = mustResume(t, setup(), turnOf(api.CodeShort), l)
	done(t, "no croquet", m, croquet(l[1], at(0, 1), 1), struck(), nil, l...)
	on = with(turnOf(api.CodeShort), func(g *api.Game) { g.Phase = api.PhaseContinue })
	m = mustResume(t, setup(), on, l)
	done(t, "a continuation", m, croquet(at(-7, 0), at(0, 1), 1), struck(), nil, l...)
}

// P12.2: the distance at which the own ball is put is that of both radii.
func TestCroquetRadii(t *testing.T) {
	s := setupWith(radius(0, 1000), radius(2, 1500))
	m := mustResume(t, s, turnOf(api.CodeShort, croquetOf(2)), spread())
	done(t, "small balls", m, croquet(at(60000, 0), at(0, -1), 1), struck(), nil, put(spread(), 0, at(60000, 147500))...)
	m = mustResume(t, s, turnOf(api.CodeShort, turnBy(3), croquetOf(2)), spread())
	done(t, "a small ball and another one", m, croquet(at(60000, 200000), at(0, 1), 1), struck(), nil, put(spread(), 3, at(60000, 150000+1500+size))...)
}

// P12.2: where the own ball may not be put.
func TestCroquetErrors(t *testing.T) {
	on, l := turnOf(api.CodeShort, croquetOf(1)), spread()
	up := at(0, 1)
	for _, x := range []struct {
		name    string
		g       api.Game
		places  []api.Point
		towards api.Point
	}{
		{"the place of the other ball", on, l, l[1]},
		{"off the lawn", on, put(l, 1, at(5891, 160000)), at(0, 160000)},
		{"off the other end of the lawn", on, put(l, 1, at(50000, 200000)), at(50000, far)},
		{"on a third ball", on, put(l, 3, at(40000, 149000)), at(40000, 0)},
		{"on a wire", on, put(l, 1, at(46500, 31000)), at(46500, 32000)},
		{"on the peg", on, put(l, 1, at(50000, 110000)), at(50000, 109999)},
	} {
		m := mustResume(t, setup(), x.g, x.places)
		refused(t, x.name, m, croquet(x.towards, up, 1000), api.ErrRule)
		refused(t, x.name+", with no blow", m, croquet(x.towards, at(0, 0), 0), api.ErrRule)
	}
	// Where it was, and where balls were that are not in play, is free.
	m := mustResume(t, setup(), on, put(l, 0, at(40000, 152000)))
	done(t, "its own place", m, croquet(at(40000, 0), at(0, -1), 1), struck(), nil, put(l, 0, at(40000, 154108))...)
	out := with(on, peggedOut(2), peggedOut(3))
	m = mustResume(t, setup(), out, put(l, 1, at(5892, 0)))
	done(t, "the corner", m, croquet(at(0, 0), at(0, 1), 1), struck(), nil, at(0, 0), at(5892, 5000), at(0, 0), at(0, 0))
	m = mustResume(t, setup(), on, put(l, 1, at(5892, 160000)))
	done(t, "the boundary", m, croquet(at(-far, 160000), at(0, 1), 1), struck(), nil, put(l, 0, at(0, 160000), 1, at(5892, 160000))...)
}

// P12.2: a knock in the tick after which a hoop was run comes before it, as all steps do; balls that run hoops in the same tick come by their numbers.
func TestSameTick(t *testing.T) {
	on := turnOf(api.CodeShort)
	seen := map[string]bool{}
	look := func(g api.Game, s api.Setup, places []api.Point, d api.Doing) {
		x := &model{s: s, g: g, at: [4]api.Point(places)}
		run := modelRun{model: x, was: g}
		if e := run.blow(api.Blow{Ball: g.Ball, Aim: d.Aim, Power: d.Power, Kind: d.Blow}); e != api.OK {
			t.Fatalf("%v: error %d", d, e)
		}
		for i, knocks := range run.knocks {
			hits := slices.ContainsFunc(knocks, func(k api.Knock) bool { return k.Kind == api.KnockBall })
			for ball, ran := range run.ran {
				seen["a hit and a hoop"] = seen["a hit and a hoop"] || hits && ran == i
				seen["two hoops"] = seen["two hoops"] || ran == i && slices.Contains(run.ran[:ball], i)
			}
		}
		agree(t, mustResume(t, s, g, places), x, d)
	}
	for y := int64(48400); y < 49600; y += 50 {
		look(on, setup(), put(spread(), 0, at(50000, 34000), 1, at(50000, y)), strike(at(0, 1), 1500000))
	}
	wide := setupWith(func(s *api.Setup) { s.Ground.Lawn.Hoops[0].Gap = 30000 })
	for x := int64(52000); x < 55800; x += 200 {
		for striker := range 4 {
			l := spread()
			l[striker], l[(striker+1)%4] = at(50000, 26000), at(x, 32000)
			look(with(on, turnBy(striker)), wide, l, strike(at(0, 1), 2000000))
		}
	}
	if !seen["a hit and a hoop"] || !seen["two hoops"] {
		t.Errorf("in the same tick: %v", seen)
	}
}
