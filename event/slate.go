package event

import (
	"iter"

	"roquet/api"
)

// lastTime is the greatest time of a session.
const lastTime = 1 << 40

// checkSlate reports whether fixtures and sessions are valid.
func checkSlate(l []api.Fixture, s []api.Session, share int) api.Errno {
	switch {
	case len(l) > api.MaxFixtures || len(s) > api.MaxSessions:
		return api.ErrMany
	case !between(share, 1, 2):
		return api.ErrRange
	case !areFixtures(l) || !areSessions(s):
		return api.ErrArg
	}
	return api.OK
}

// areFixtures reports whether all fixtures are valid.
func areFixtures(l []api.Fixture) bool {
	for i, f := range l {
		if !isPlayer(f.A) || !isPlayer(f.B) || f.A == f.B || !between(f.Minutes, 1, api.MaxMinutes) {
			return false
		}
		least := 0
		for _, k := range f.After {
			if !between(k, least, i-1) {
				return false
			}
			least = k + 1
		}
	}
	return true
}

// areSessions reports whether sessions are valid.
func areSessions(l []api.Session) bool {
	var end, length int64
	for _, s := range l {
		if s.From < end || s.From >= s.To || s.To > lastTime || !between(s.Lawns, 0, api.MaxLawns) {
			return false
		}
		end = s.To
		length += s.To - s.From
	}
	return length <= api.MaxMinutes
}

// minute is a minute of play: its number, its time, and the index of its session.
type minute struct {
	number  int
	time    int64
	session int
}

// minutes yields the minutes of play of sessions.
func minutes(l []api.Session) iter.Seq[minute] {
	return func(yield func(minute) bool) {
		number := 0
		for i, s := range l {
			for time := s.From; time < s.To; time++ {
				if !yield(minute{number, time, i}) {
					return
				}
				number++
			}
		}
	}
}

// stay is when a fixture is played: how many minutes of play, from the first one to the last one; 0 if it is not placed.
type stay struct {
	long        int
	first, last minute
}

// with returns a stay that goes on for another minute.
func (s stay) with(m minute) stay {
	if s.long == 0 {
		s.first = m
	}
	s.last = m
	s.long++
	return s
}

// has reports whether the fixture is played at a minute.
func (s stay) has(m minute) bool {
	return s.long > 0 && between(m.number, s.first.number, s.last.number)
}

// isOver reports whether the fixture was played before a minute.
func (s stay) isOver(m minute) bool {
	return s.long > 0 && s.last.number < m.number
}

// booking returns the slot of a stay.
func (s stay) booking() api.Booking {
	if s.long == 0 {
		return api.Booking{From: -1, To: -1}
	}
	return api.Booking{From: s.first.time, To: s.last.time + 1}
}

// slate is the fixtures that had their turn, and their stays.
type slate struct {
	sessions []api.Session
	share    int
	fixtures []api.Fixture
	stays    []stay
}

// add gives the next fixture its stay.
func (s *slate) add(f api.Fixture, when stay) {
	s.fixtures = append(s.fixtures, f)
	s.stays = append(s.stays, when)
}

// isFree reports whether a fixture may be played at a minute, beside those that were placed. A later minute is behind all that this one is behind, so that each minute of a stay may be asked whether what has to be over before it is.
func (s *slate) isFree(f api.Fixture, m minute) bool {
	for _, k := range f.After {
		if !s.stays[k].isOver(m) {
			return false
		}
	}
	played := 0
	for i, other := range s.fixtures {
		if s.stays[i].has(m) {
			if haveCommon(f, other) {
				return false
			}
			played++
		}
	}
	return played < s.sessions[m.session].Lawns*s.share
}

// haveCommon reports whether a player plays in both fixtures.
func haveCommon(f, g api.Fixture) bool {
	return f.A == g.A || f.A == g.B || f.B == g.A || f.B == g.B
}

// Slate returns when all fixtures are played.
func Slate(l []api.Fixture, s []api.Session, share int) ([]api.Booking, api.Errno) {
	if e := checkSlate(l, s, share); e != api.OK {
		return nil, e
	}
	all := &slate{sessions: s, share: share}
next:
	for _, f := range l {
		var when stay
		for m := range minutes(s) {
			if !all.isFree(f, m) {
				when = stay{}
				continue
			}
			if !f.Peg && m.session != when.last.session {
				when = stay{} // it cannot be played on from the session before
			}
			when = when.with(m)
			if when.long == f.Minutes {
				all.add(f, when)
				continue next
			}
		}
		all.add(f, stay{})
	}
	bookings := make([]api.Booking, len(l))
	for i, when := range all.stays {
		bookings[i] = when.booking()
	}
	return bookings, api.OK
}
