package club_test

import (
	"math"
	"slices"
	"testing"

	"roquet/api"
	"roquet/club"
)

// blowOf returns a stroke with a change of it.
func blowOf(change func(*api.Doing)) api.Doing {
	d := strike(at(0, 1), 100000)
	change(&d)
	return d
}

// P12.2: doings that are not valid, in whatever position.
func TestNotValid(t *testing.T) {
	var bad []api.Doing
	for _, kind := range []int{math.MinInt, -1, 0, 5, math.MaxInt} {
		bad = append(bad, api.Doing{Kind: kind, Aim: at(0, 1), Power: 1000})
	}
	for _, ball := range []int{math.MinInt, -1, 4, math.MaxInt} {
		bad = append(bad, choose(ball, at(27000, 5000)))
	}
	for _, n := range append(wild(), far+1, -far-1) {
		for _, p := range []api.Point{at(n, 5000), at(27000, n)} {
			bad = append(bad, choose(0, p), lift(0, p), croquet(p, at(0, 1), 1000))
		}
	}
	for _, x := range []api.Mark{mark(-1, 0, 0, 0), mark(6, 0, 0, 0), mark(0, -1, 0, 0), mark(0, 4, 0, 0), mark(0, 0, -1, 0), mark(0, 0, 2, 1), mark(0, 0, 0, api.MaxTicks+1)} {
		bad = append(bad, strike(at(0, 1), 1000, x), strike(at(0, 1), 1000, tap(0, 1), x), strike(at(0, 0), 0, x))
	}
	bad = append(bad, strike(at(0, 1), 1000, slices.Repeat(double(), 33)[:65]...))
	for name, m := range map[string]*club.Match{
		"a new match":  mustNew(t, setup()),
		"a turn":       mustResume(t, setup(), turnOf(api.CodeShort), spread()),
		"croquet":      mustResume(t, setup(), turnOf(api.CodeShort, croquetOf(1)), spread()),
		"two turns":    mustResume(t, setup(), startOf(api.CodeShort), spread()),
		"a match over": mustResume(t, setup(), overOf(api.CodeShort), spread()),
	} {
		for _, d := range bad {
			refused(t, name, m, d, api.ErrArg)
		}
	}
}

// P12.2: what does not belong to a doing may be anything, and as many marks as there may be are judged.
func TestLittered(t *testing.T) {
	litter := api.Doing{Ball: -7, Lift: true, Half: true, At: at(math.MinInt64, 3), Aim: at(0, math.MaxInt64), Power: -1, Blow: 77, Marks: make([]api.Mark, 1000)}
	m := mustNew(t, setup())
	d := litter
	d.Kind, d.Ball, d.Lift, d.At = api.DoChoose, 2, false, at(27000, 5000)
	done(t, "a choice", m, d, api.Move{Kind: api.MoveChoose, Ball: 2}, nil, at(0, 0), at(0, 0), at(27000, 5000), at(0, 0))
	d = strike(at(0, 1), 100000, slices.Repeat([]api.Mark{mark(api.MarkMoved, 3, api.MaxTicks, api.MaxTicks)}, 64)...)
	d.Ball, d.Lift, d.Half, d.At = litter.Ball, true, true, at(far, -far)
	done(t, "a stroke", m, d, struck(), nil)
	m = mustResume(t, setup(), startOf(api.CodeShort, func(g *api.Game) { g.Last, g.Halves = 1, [2]int{0, 9} }), spread())
	d = litter
	d.Kind = api.DoBisque
	done(t, "a half bisque", m, d, api.Move{Kind: api.MoveHalf, Ball: 1}, nil)
	d.Kind = api.DoPass
	done(t, "a pass", m, d, api.Move{Kind: api.MovePass}, nil)
}

// P12.2: blows that are not valid.
func TestBlowErrors(t *testing.T) {
	bad := doings(strike(at(0, 0), 1000), strike(at(far+1, 0), 1000), strike(at(0, -far-1), 1000),
		strike(at(0, 1), 0), strike(at(0, 1), -1), strike(at(0, 1), api.MaxPower+1), strike(at(0, 1), math.MinInt64), strike(at(math.MaxInt64, 1), 1),
		blowOf(func(d *api.Doing) { d.Blow = -1 }), blowOf(func(d *api.Doing) { d.Blow = 5 }), blowOf(func(d *api.Doing) { d.Blow = math.MaxInt }))
	for name, g := range map[string]api.Game{"a turn": turnOf(api.CodeShort), "croquet": turnOf(api.CodeShort, croquetOf(1))} {
		m := mustResume(t, setup(), g, spread())
		for _, d := range bad {
			refused(t, name, m, d, api.ErrArg)
			d.Marks = double()
			refused(t, name+", with a fault", m, d, api.ErrArg)
		}
	}
	for name, g := range map[string]api.Game{"two turns": startOf(api.CodeShort), "a match over": overOf(api.CodeShort)} {
		m := mustResume(t, setup(), g, spread())
		for _, d := range bad {
			refused(t, name, m, d, api.ErrState)
		}
	}
	for kind := range 5 {
		m := mustResume(t, setup(), turnOf(api.CodeShort), spread())
		d := blowOf(func(d *api.Doing) { d.Blow = kind })
		x := &model{s: setup(), g: m.Game(), at: [4]api.Point(m.Places())}
		if _, e := agree(t, m, x, d); e != api.OK {
			t.Errorf("the kind of blow %d: error %d", kind, e)
		}
	}
}

// leaning returns a match in which the ball 0 lies so far before the peg. Struck at it weakly it does not bounce off, and there is a knock in each step.
func leaning(t *testing.T, drag, before int64) *club.Match {
	t.Helper()
	return mustResume(t, setupWith(dragIs(drag)), turnOf(api.CodeShort), put(spread(), 0, at(50000, 100000-1200-size-before)))
}

// P12.2: the errors of a run.
func TestRunErrors(t *testing.T) {
	up := at(0, 1)
	refused(t, "too many knocks", leaning(t, 0, 0), strike(up, 1000), api.ErrMany)
	refused(t, "too many knocks, and a fault", leaning(t, 0, 0), strike(up, 1000, double()...), api.ErrMany)
	m := mustResume(t, setupWith(dragIs(0)), turnOf(api.CodeShort), spread())
	refused(t, "not still", m, strike(up, 1000), api.ErrLate)
	refused(t, "not still, and a fault", m, strike(up, 1000, double()...), api.ErrLate)
	done(t, "soon off the lawn", m, strike(up, 2000000), struck(off(0)), nil)
	wide := setupWith(func(s *api.Setup) { s.Ground.Lawn.Wide = far })
	m = mustResume(t, wide, turnOf(api.CodeShort), put(spread(), 0, at(far-10, 199000)))
	refused(t, "beyond all places", m, strike(at(1, 0), 2000000), api.ErrOver)
	refused(t, "beyond all places, and a fault", m, strike(at(1, 0), 2000000, double()...), api.ErrOver)
	done(t, "beyond the other boundary", m, strike(up, 2000000), struck(off(0)), nil)
	// By a drag that stops the ball after 4,000 ticks it is still in time.
	m = mustResume(t, setupWith(dragIs(1)), turnOf(api.CodeShort), spread())
	x := done(t, "4,000 ticks", m, strike(up, 4000), struck(), nil)
	if x.Ticks != 4000 {
		t.Errorf("4,000 ticks: %v", x)
	}
	m = mustResume(t, setupWith(dragIs(1)), turnOf(api.CodeShort), spread())
	refused(t, "4,001 ticks", m, strike(up, 4001), api.ErrLate)
}

// P12.2: a stroke has at most 24 events, the fault too.
func TestMostEvents(t *testing.T) {
	counts := map[int]bool{}
	for power := int64(2000); power < 3500 && !(counts[23] && counts[24] && counts[25]); power++ {
		m := leaning(t, 1000, 1)
		x, e := m.Copy().Do(strike(at(0, 1), power))
		n := len(x.Move.Events)
		run := modelRun{model: &model{s: setupWith(dragIs(1000)), g: m.Game(), at: [4]api.Point(m.Places())}, was: m.Game()}
		if e := run.blow(api.Blow{Aim: at(0, 1), Power: power, Kind: drives}); e != api.OK {
			t.Fatalf("the power %d: error %d", power, e)
		}
		known := len(run.events())
		if counts[known] {
			continue
		}
		counts[known] = true
		switch {
		case known <= 24 && (e != api.OK || n != known || m.Game().Points != [4]int{}):
			t.Errorf("%d events: %v, error %d", known, x, e)
		case known > 24:
			refused(t, "too many events", m, strike(at(0, 1), power), api.ErrMany)
		}
		d := strike(at(0, 1), power, double()...)
		if known < 24 {
			done(t, "a fault behind them", m, d, struck(append(slices.Repeat([]api.Event{peg(0)}, known), fault())...), []int{10})
		} else {
			refused(t, "too many events, with the fault", m, d, api.ErrMany)
		}
	}
	if !counts[23] || !counts[24] || !counts[25] {
		t.Errorf("numbers of events: %v", counts)
	}
}

// P12.2: that there is no room comes first, then that the doing is not valid, and then what its kind says.
func TestOrderOfErrors(t *testing.T) {
	m := mustResume(t, setup(), startOf(api.CodeAdvanced, func(g *api.Game) { g.Code = api.CodeShort }), spread())
	for range 399 {
		mustDo(t, m, pass())
	}
	last := m.Copy()
	mustDo(t, last, pass())
	for _, d := range doings(pass(), api.Doing{}, choose(9, at(1, 1)), choose(0, at(0, 0)), strike(at(0, 0), 0), bisque()) {
		refused(t, "400 doings were done", last, d, api.ErrFull)
	}
	if len(last.Moves()) != 400 {
		t.Errorf("400 doings: %d moves", len(last.Moves()))
	}
	refused(t, "no valid doing", m, api.Doing{}, api.ErrArg)
	refused(t, "a ball of the other side, to no place", m, choose(1-m.Game().Side, at(far+1, 0)), api.ErrArg)
	refused(t, "a ball of the other side, to no baulk", m, choose(1-m.Game().Side, at(0, 0)), api.ErrState)
	refused(t, "a stroke between two turns, with a wrong mark", m, strike(at(0, 0), 0, mark(9, 0, 0, 0)), api.ErrArg)
	refused(t, "a stroke between two turns, with a wrong blow", m, strike(at(0, 0), 0), api.ErrState)
	mustDo(t, m, pass())

	m = mustResume(t, setupWith(dragIs(0)), turnOf(api.CodeShort, croquetOf(1)), spread())
	other := m.Places()[1]
	refused(t, "no place, a wrong mark", m, croquet(other, at(0, 0), 0, mark(9, 0, 0, 0)), api.ErrArg)
	refused(t, "no place, and a wrong blow", m, croquet(other, at(0, 0), 0), api.ErrRule)
	refused(t, "a wrong blow, and never still", m, croquet(at(1, 1), at(0, 0), 1000), api.ErrArg)
	refused(t, "never still", m, croquet(at(1, 1), at(-1, 0), 1000), api.ErrLate)
}
