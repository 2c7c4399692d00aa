package club_test

import (
	"slices"
	"testing"

	"roquet/api"
	"roquet/game"
	"roquet/referee"
)

// bookOf returns a change of the articles of the book.
func bookOf(l ...api.Article) func(*api.Setup) {
	return func(s *api.Setup) { s.Book.Articles = l }
}

// article returns an article with one fact for which it asks.
func article(number int, ask, then string) api.Article {
	return api.Article{Number: number, If: []string{ask}, Then: then}
}

// P12.2, P12.11: a stroke with a fault leaves the balls where they were, and ends the turn.
func TestFault(t *testing.T) {
	on, l, up := turnOf(api.CodeShort), spread(), at(0, 1)
	hits := put(l, 1, at(20000, 160000))
	for _, x := range []struct {
		name   string
		g      api.Game
		places []api.Point
		d      api.Doing
		events []api.Event
	}{
		{"a hit", on, hits, strike(up, 500000, double()...), []api.Event{hit(1), fault()}},
		{"nothing", on, l, strike(up, 1, double()...), []api.Event{fault()}},
		{"a hoop", on, put(l, 0, at(50000, 34000)), strike(up, 600000, double()...), []api.Event{hoop(0), fault()}},
		{"off the lawn", with(on, turnBy(3)), put(l, 3, at(50000, 195000)), strike(up, 600000, double()...), []api.Event{off(3), fault()}},
		{"the peg", with(on, points(6, 0, 0, 0)), put(l, 0, at(50000, 90000)), strike(up, 500000, double()...), []api.Event{peg(0), fault()}},
		{"croquet", with(on, croquetOf(1)), l, croquet(at(40000, 150000), up, 500000, double()...), []api.Event{hit(1), fault()}},
		{"croquet without a contact", with(on, croquetOf(3)), l, croquet(at(80000, 200000), up, 500000, double()...), []api.Event{fault()}},
	} {
		m := mustResume(t, setup(), x.g, x.places)
		y := done(t, x.name, m, x.d, struck(x.events...), []int{10}, x.places...)
		// What was played is told, although it is taken back.
		clean := mustResume(t, setup(), x.g, x.places)
		d := x.d
		d.Marks = nil
		z := mustDo(t, clean, d)
		if z.Ticks != y.Ticks || z.Knocks != y.Knocks || len(z.Fault) > 0 {
			t.Errorf("%s: %v, and without a fault %v", x.name, y, z)
		}
		if g := m.Game(); g.Phase != api.PhaseStart || g.Side == x.g.Side || g.Points != x.g.Points || g.In != x.g.In {
			t.Errorf("%s: %v", x.name, g)
		}
	}
}

// P12.2: a fault is what the book says of the marks, for the striker's ball and the limit; its articles are the shortest way back.
func TestJudged(t *testing.T) {
	on, l := turnOf(api.CodeShort), spread()
	moved := bookOf(article(7, "moved", "fault"))
	long := bookOf(article(1, "struck", "fine"), article(5, "push", "bad"), article(6, "push", "worse"), article(9, "bad", "fault"), article(12, "bad", "fault"), article(13, "fault", "ended"))
	for _, x := range []struct {
		name  string
		s     api.Setup
		ball  int
		marks []api.Mark
		why   []int
	}{
		{"no marks", setup(), 0, nil, nil},
		{"one mark of the mallet", setup(), 0, []api.Mark{tap(0, 50)}, nil},
		{"two marks of the mallet", setup(), 0, double(), []int{10}},
		{"two marks of the mallet, and another ball moved", setup(), 0, append(double(), mark(api.MarkMoved, 1, 0, 5)), nil},
		{"two marks of the mallet, and the own ball moved", setup(), 1, append(double(), mark(api.MarkMoved, 1, 0, 5)), []int{10}},
		{"the ball 2 moved, which is played", setupWith(moved), 2, []api.Mark{mark(api.MarkMoved, 2, 0, 0)}, []int{7}},
		{"the ball 2 moved, which is not played", setupWith(moved), 0, []api.Mark{mark(api.MarkMoved, 2, 0, 0)}, nil},
		{"a mallet that stays as long as it may", setupWith(long), 0, []api.Mark{tap(4, 7)}, nil},
		{"a mallet that stays longer", setupWith(long), 0, []api.Mark{tap(4, 8)}, []int{5, 9}},
		{"a greater limit", setupWith(long, limit(4)), 0, []api.Mark{tap(4, 8)}, nil},
		{"no limit", setupWith(long, limit(0)), 3, []api.Mark{tap(4, 5)}, []int{5, 9}},
		{"a book without faults", setupWith(bookOf(article(1, "double", "bad"))), 0, double(), nil},
		{"no articles", setupWith(bookOf()), 0, double(), nil},
	} {
		m := mustResume(t, x.s, with(on, turnBy(x.ball)), l)
		events := []api.Event{fault()}
		if x.why == nil {
			events = nil
		}
		done(t, x.name, m, strike(at(0, 1), 1, x.marks...), struck(events...), x.why, l...)
	}
}

// P12.11: it is a fault just if the book names one, and then its articles derive it.
func TestFaultsAreDerived(t *testing.T) {
	r := dice(11)
	faults := 0
	for range 300 {
		m, x := anyMatch(t, r)
		if x.g.Phase == api.PhaseStart || x.g.Phase == api.PhaseOver {
			continue
		}
		d := anyStroke(r, x)
		if r.Intn(3) == 0 {
			d.Marks = append(double(), d.Marks...)
		}
		before := stateOf(m)
		y, e := m.Do(d)
		if e != api.OK {
			continue
		}
		facts, _ := referee.Facts(d.Marks, before.game.Ball, x.s.Limit)
		follows, _, _ := referee.Follows(x.s.Book, facts)
		isFault := slices.Contains(y.Move.Events, fault())
		if isFault != slices.Contains(follows, "fault") {
			t.Errorf("%v by %v: %v", d.Marks, x.s.Book, y)
		}
		if !isFault {
			if len(y.Fault) > 0 {
				t.Errorf("no fault, but by %v", y.Fault)
			}
			continue
		}
		faults++
		if e := referee.CheckWhy(x.s.Book, facts, "fault", y.Fault); e != api.OK {
			t.Errorf("%v from %v by %v: error %d", y.Fault, facts, x.s.Book, e)
		}
		checkTakenBack(t, x.s, before, stateOf(m))
	}
	if faults < 10 {
		t.Errorf("%d faults", faults)
	}
}

// checkTakenBack checks that a fault has left the balls where they were, but for the yard line, and has ended the turn.
func checkTakenBack(t *testing.T, s api.Setup, before, after standing) {
	t.Helper()
	passed, e := game.Play(before.game, api.Move{Kind: api.MovePass})
	if e != api.OK || after.game != passed {
		t.Errorf("behind a fault: %v, want %v", after.game, passed)
	}
	l := s.Ground.Lawn
	for ball, p := range before.places {
		inside := p.X >= l.Yard && p.X <= l.Wide-l.Yard && p.Y >= l.Yard && p.Y <= l.Long-l.Yard
		if before.game.In[ball] && inside && after.places[ball] != p {
			t.Errorf("behind a fault the ball %d lies at %v, and no more at %v", ball, after.places[ball], p)
		}
	}
}
