package event_test

import (
	"math"
	"slices"
	"testing"

	"roquet/api"
	"roquet/event"
)

// checkSlate fails if the slate is not this one.
func checkSlate(t *testing.T, name string, l []api.Fixture, s []api.Session, share int, want ...api.Booking) {
	t.Helper()
	if b := mustSlate(t, l, s, share); !slices.Equal(b, want) {
		t.Errorf("%s: Slate(%v, %v, %d): %v, want %v", name, l, s, share, b, want)
	}
}

// two are two sessions of 100 minutes each on so many lawns.
func two(lawns int) []api.Session {
	return []api.Session{session(100, 200, lawns), session(300, 400, lawns)}
}

// P11.9: one fixture: the first minute with enough room behind it.
func TestSlateOfOne(t *testing.T) {
	f := func(minutes int) []api.Fixture { return []api.Fixture{fixture(0, 1, minutes)} }
	p := func(minutes int) []api.Fixture { return []api.Fixture{pegged(fixture(0, 1, minutes))} }
	short := []api.Session{session(0, 10, 1), session(10, 15, 1), session(20, 50, 1)}
	for _, share := range []int{1, 2} {
		checkSlate(t, "none", nil, two(1), share)
		checkSlate(t, "no session", f(1), nil, share, never())
		checkSlate(t, "no session, pegged", p(1), nil, share, never())
		checkSlate(t, "a minute", f(1), two(1), share, slot(100, 101))
		checkSlate(t, "a whole session", f(100), two(1), share, slot(100, 200))
		checkSlate(t, "too long", f(101), two(1), share, never())
		checkSlate(t, "pegged, over the end by one", p(101), two(1), share, slot(100, 301))
		checkSlate(t, "pegged, as long as all", p(200), two(1), share, slot(100, 400))
		checkSlate(t, "pegged, too long", p(201), two(1), share, never())
		checkSlate(t, "pegged, not over the end", p(100), two(1), share, slot(100, 200))
		checkSlate(t, "only the second session is long enough", f(11), short, share, slot(20, 31))
		checkSlate(t, "the last session, to its end", f(30), short, share, slot(20, 50))
		checkSlate(t, "sessions right behind one another are two", f(12), short, share, slot(20, 32))
		checkSlate(t, "pegged over two ends", p(17), short, share, slot(0, 22))
	}
}

// P11.9: a session without lawns has no game, and what is pegged down is not played on behind it.
func TestSlateWithRain(t *testing.T) {
	s := []api.Session{session(0, 10, 1), session(20, 25, 0), session(30, 50, 1)}
	f := func(minutes int) []api.Fixture { return []api.Fixture{fixture(0, 1, minutes)} }
	p := func(minutes int) []api.Fixture { return []api.Fixture{pegged(fixture(0, 1, minutes))} }
	checkSlate(t, "dry", f(10), s, 2, slot(0, 10))
	checkSlate(t, "long", f(11), s, 2, slot(30, 41))
	checkSlate(t, "long, pegged", p(11), s, 2, slot(30, 41))
	checkSlate(t, "longest, pegged", p(20), s, 2, slot(30, 50))
	checkSlate(t, "too long, pegged", p(21), s, 2, never())
	checkSlate(t, "only rain", p(1), []api.Session{session(0, 10, 0)}, 2, never())
}

// P11.9: as many games at once as lawns times how many share one.
func TestSlateOfLawns(t *testing.T) {
	l := []api.Fixture{fixture(0, 1, 60), fixture(2, 3, 50), fixture(4, 5, 40), fixture(6, 7, 30)}
	checkSlate(t, "one lawn", l, two(1), 1, slot(100, 160), slot(300, 350), slot(160, 200), slot(350, 380))
	checkSlate(t, "one lawn, shared", l, two(1), 2, slot(100, 160), slot(100, 150), slot(150, 190), slot(160, 190))
	checkSlate(t, "two lawns", l, two(2), 1, slot(100, 160), slot(100, 150), slot(150, 190), slot(160, 190))
	checkSlate(t, "three lawns", l, two(3), 1, slot(100, 160), slot(100, 150), slot(100, 140), slot(140, 170))
	checkSlate(t, "two lawns, shared", l, two(2), 2, slot(100, 160), slot(100, 150), slot(100, 140), slot(100, 130))
	s := two(1)
	s[1].Lawns = 2
	checkSlate(t, "a lawn more later", l[:3], s, 1, slot(100, 160), slot(300, 350), slot(160, 200))
	checkSlate(t, "a gap is filled", []api.Fixture{fixture(0, 1, 90), fixture(2, 3, 20), fixture(4, 5, 10)}, two(1), 1, slot(100, 190), slot(300, 320), slot(190, 200))
}

// P11.9: nobody plays two games at once, whether as A or as B.
func TestSlateOfPlayers(t *testing.T) {
	for _, x := range [][2]int{{0, 2}, {2, 0}, {1, 2}, {2, 1}, {0, 1}, {1, 0}} {
		l := []api.Fixture{fixture(0, 1, 60), fixture(x[0], x[1], 40), fixture(3, 4, 100)}
		checkSlate(t, "one for both", l, two(12), 2, slot(100, 160), slot(160, 200), slot(100, 200))
	}
	l := []api.Fixture{fixture(0, 1, 60), fixture(1000, 2, 50), fixture(1, 1000, 40), fixture(2, 0, 50)}
	checkSlate(t, "in turn", l, two(12), 2, slot(100, 160), slot(100, 150), slot(160, 200), slot(300, 350))
	l = []api.Fixture{fixture(0, 1, 60), fixture(1, 2, 200), fixture(2, 0, 60)}
	l[1].Peg = true
	checkSlate(t, "whoever is not placed plays nowhere", l, two(1), 1, slot(100, 160), never(), slot(300, 360))
	l[1].Minutes = 60
	checkSlate(t, "who is pegged down is busy in both sessions", l, two(12), 2, slot(100, 160), slot(160, 320), slot(320, 380))
}

// P11.9: what has to be over before is placed, and over.
func TestSlateAfter(t *testing.T) {
	l := []api.Fixture{fixture(0, 1, 60), fixture(2, 3, 70), fixture(4, 5, 10, 0), fixture(6, 7, 10, 1), fixture(8, 9, 10, 0, 1), fixture(10, 11, 10, 2, 4)}
	checkSlate(t, "each behind its own", l, two(12), 2, slot(100, 160), slot(100, 170), slot(160, 170), slot(170, 180), slot(170, 180), slot(180, 190))
	l = []api.Fixture{fixture(0, 1, 100), fixture(2, 3, 10, 0)}
	checkSlate(t, "over at the end of a session", l, two(12), 2, slot(100, 200), slot(300, 310))
	l = []api.Fixture{fixture(0, 1, 101), fixture(2, 3, 10, 0), fixture(4, 5, 10), fixture(6, 7, 10, 1), fixture(8, 9, 10, 2)}
	checkSlate(t, "behind one that is not placed", l, two(12), 2, never(), never(), slot(100, 110), never(), slot(110, 120))
	l[0].Peg = true
	checkSlate(t, "behind one that is pegged down", l, two(12), 2, slot(100, 301), slot(301, 311), slot(100, 110), slot(311, 321), slot(110, 120))
	l = []api.Fixture{fixture(0, 1, 60), fixture(2, 3, 30), fixture(4, 5, 41, 0, 1)}
	checkSlate(t, "no room behind it", l, two(1)[:1], 2, slot(100, 160), slot(100, 130), never())
	l[2].Minutes = 40
	checkSlate(t, "just room behind it", l, two(1)[:1], 2, slot(100, 160), slot(100, 130), slot(160, 200))
}

// P11.9: any slate against the second version.
func TestSlateModel(t *testing.T) {
	r := dice(1109)
	placed, missing := 0, 0
	for range 3000 {
		l, s, share := anyFixtures(r, 12), anySessions(r), from(r, 1, 2)
		want, begins := modelSlate(l, s, share)
		checkSlate(t, "any", l, s, share, want...)
		for _, b := range begins {
			if b == notPlaced {
				missing++
			} else {
				placed++
			}
		}
	}
	if placed < 5000 || missing < 2000 {
		t.Errorf("only %d were placed, and %d not", placed, missing)
	}
}

// P11.9: as many fixtures, sessions, lawns and minutes as there may be.
func TestSlateLimits(t *testing.T) {
	const last = 1 << 40
	checkSlate(t, "the last minutes of all", []api.Fixture{fixture(0, 1000, api.MaxMinutes)}, []api.Session{session(last-api.MaxMinutes, last, api.MaxLawns)}, 2, slot(last-api.MaxMinutes, last))
	checkSlate(t, "the greatest gap", []api.Fixture{pegged(fixture(0, 1, 2))}, []api.Session{session(0, 1, 1), session(last-1, last, 1)}, 1, slot(0, last))
	var l []api.Fixture
	var s []api.Session
	for i := range api.MaxFixtures {
		l = append(l, pegged(fixture(2*i, 2*i+1, api.MaxMinutes/2)))
	}
	for i := range int64(api.MaxSessions) {
		s = append(s, session(1000*i, 1000*i+api.MaxMinutes/api.MaxSessions, api.MaxLawns))
	}
	want := append(slices.Repeat([]api.Booking{slot(0, 7250)}, 24), slices.Repeat([]api.Booking{slot(8000, 15250)}, 8)...)
	checkSlate(t, "as many as there may be", l, s, 2, want...)
	for i := range l {
		l[i].B = 900 // so that each has to be behind the one before
		l[i].Minutes = api.MaxMinutes / api.MaxFixtures
		l[i].After = numbers(i)
	}
	for i := range want {
		from := int64(1000*(i/2) + i%2*125)
		want[i] = slot(from, from+125)
	}
	checkSlate(t, "one behind the other", l, s, 1, want...)
}

// badFixtures are fixtures that are not valid at the index 2 of a list.
func badFixtures() []api.Fixture {
	l := []api.Fixture{{}, fixture(5, 5, 10), fixture(0, 0, 10), fixture(-1, -1, 10)}
	for _, n := range []int{-1, 1001, math.MinInt, math.MaxInt} {
		l = append(l, fixture(n, 5, 10), fixture(5, n, 10), fixture(n, n, 10))
	}
	for _, n := range []int{0, -1, api.MaxMinutes + 1, math.MinInt, math.MaxInt} {
		l = append(l, fixture(5, 6, n), pegged(fixture(5, 6, n)))
	}
	for _, after := range [][]int{{-1}, {2}, {3}, {math.MinInt}, {math.MaxInt}, {0, 0}, {1, 0}, {1, 1}, {0, 2}, {0, 1, 1}, {0, 1, 2}, {-1, 0}, numbers(100000)} {
		l = append(l, fixture(5, 6, 10, after...))
	}
	return l
}

// badSessions are lists of sessions that are not valid.
func badSessions() [][]api.Session {
	const last = 1 << 40
	bad := func(s ...api.Session) []api.Session { return s }
	l := [][]api.Session{
		bad(session(-1, 5, 1)),
		bad(session(-5, -1, 1)),
		bad(session(5, 5, 1)),
		bad(session(0, 0, 1)),
		bad(session(6, 5, 1)),
		bad(session(last-1, last+1, 1)),
		bad(session(last, last, 1)),
		bad(session(last, last+1, 1)),
		bad(session(math.MinInt64, math.MaxInt64, 1)),
		bad(session(0, math.MaxInt64, 1)),
		bad(session(math.MinInt64, 5, 1)),
		bad(session(0, 5, -1)),
		bad(session(0, 5, api.MaxLawns+1)),
		bad(session(0, 5, math.MinInt)),
		bad(session(0, 5, math.MaxInt)),
		bad(session(0, 5, 1), session(4, 6, 1)),
		bad(session(5, 9, 1), session(0, 5, 1)),
		bad(session(5, 9, 1), session(5, 9, 1)),
		bad(session(0, 5, 1), session(5, 5, 1)),
		bad(session(0, 5, 1), session(9, 9, 1)),
		bad(session(0, 5, 1), session(9, 10, -1)),
		bad(session(0, 5, 1), session(9, 10, 1), session(9, 12, 1)),
		bad(session(0, api.MaxMinutes+1, 1)),
		bad(session(0, 1, 1), session(1, api.MaxMinutes+1, 1)),
		bad(session(0, api.MaxMinutes, 1), session(5000, 5001, 0)),
		bad(session(0, last, 1)),
		bad(session(0, 2000, 1), session(3000, 4000, 1), session(5000, 6001, 1)),
	}
	return append(l, bad(api.Session{}))
}

// P11.9: slates that are not valid, and which error comes first.
func TestSlateErrors(t *testing.T) {
	refused := func(name string, l []api.Fixture, s []api.Session, share int, want api.Errno) {
		t.Helper()
		if b, e := event.Slate(l, s, share); len(b) > 0 || e != want {
			t.Errorf("%s: Slate of %d fixtures in %d sessions, %d on a lawn: %v, error %d, want %d", name, len(l), len(s), share, b, e, want)
		}
	}
	good := []api.Fixture{fixture(0, 1, 10), fixture(2, 3, 10, 0)}
	more := slices.Repeat([]api.Fixture{fixture(0, 1, 10)}, api.MaxFixtures+1)
	moreBad := make([]api.Fixture, api.MaxFixtures+1)
	var days []api.Session
	for i := range int64(api.MaxSessions) + 1 {
		days = append(days, session(2*i, 2*i+1, 1))
	}
	daysBad := make([]api.Session, api.MaxSessions+1)
	for _, share := range []int{1, 2, 0, 3, -1} {
		refused("fixtures", more, two(1), share, api.ErrMany)
		refused("bad fixtures", moreBad, nil, share, api.ErrMany)
		refused("sessions", good, days, share, api.ErrMany)
		refused("bad sessions", nil, daysBad, share, api.ErrMany)
		refused("both", moreBad, daysBad, share, api.ErrMany)
		refused("bad fixtures and sessions", moreBad[:2], days, share, api.ErrMany)
	}
	for _, share := range []int{0, 3, -1, math.MinInt, math.MaxInt} {
		refused("share", good, two(1), share, api.ErrRange)
		refused("share of nothing", nil, nil, share, api.ErrRange)
		refused("share of bad fixtures", moreBad[:1], two(1), share, api.ErrRange)
		refused("share in bad sessions", good, daysBad[:1], share, api.ErrRange)
	}
	for _, share := range []int{1, 2} {
		for i, f := range badFixtures() {
			refused("bad fixture "+string(rune('A'+i)), with(good, f), two(1), share, api.ErrArg)
			refused("bad fixture without sessions", with(good, f), nil, share, api.ErrArg)
			refused("bad fixture before others", with(good, f, fixture(0, 1, 1)), two(1), share, api.ErrArg)
		}
		for i, s := range badSessions() {
			refused("bad sessions "+string(rune('A'+i)), good, s, share, api.ErrArg)
			refused("bad sessions for nothing", nil, s, share, api.ErrArg)
		}
	}
	refused("the first one is behind itself", []api.Fixture{fixture(0, 1, 10, 0)}, two(1), 1, api.ErrArg)
	refused("behind a later one", []api.Fixture{fixture(0, 1, 10, 1), fixture(0, 1, 10)}, two(1), 1, api.ErrArg)
}
