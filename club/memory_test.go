package club_test

import (
	"reflect"
	"slices"
	"testing"

	"roquet/api"
	"roquet/club"
)

// spoilSetup changes all that a setup refers to.
func spoilSetup(s api.Setup) {
	clear(s.Ground.Lawn.Hoops)
	clear(s.Ground.Lawn.Cells)
	clear(s.Ground.Balls)
	clear(s.Course)
	for _, a := range s.Book.Articles {
		clear(a.If)
		clear(a.Unless)
	}
	clear(s.Book.Articles)
}

// R5: a match keeps nothing of the arguments with which it was made, and changes none of them.
func TestMemoryOfSetup(t *testing.T) {
	d := strike(at(0, 1), 600000, append(double(), mark(api.MarkMoved, 2, 0, 1))...)
	kept := slices.Clone(d.Marks)
	g := turnOf(api.CodeShort)
	l := put(spread(), 0, at(50000, 34000))
	s := setup()
	m := mustResume(t, s, g, l)
	copied := m.Copy()
	begun := mustNew(t, s)
	if !reflect.DeepEqual(s, setup()) || !slices.Equal(l, put(spread(), 0, at(50000, 34000))) {
		t.Errorf("arguments were changed: %v, %v", s, l)
	}
	spoilSetup(s)
	clear(l)
	for name, m := range map[string]*club.Match{"a match": m, "a copy": copied} {
		done(t, name, m, d, struck(hoop(0)), nil, put(spread(), 0, at(50000, 43833))...)
		done(t, name, m, strike(at(1, 0), 1, double()...), struck(fault()), []int{10})
	}
	mustDo(t, begun, choose(0, at(27000, 5000)))
	done(t, "a new match", begun, strike(at(0, 1), 1, double()...), struck(fault()), []int{10})
	if !slices.Equal(d.Marks, kept) {
		t.Errorf("the marks were changed: %v", d.Marks)
	}
}

// R5: results share no memory with the match, nor with each other.
func TestMemoryOfResults(t *testing.T) {
	m := mustResume(t, setup(), turnOf(api.CodeShort), put(spread(), 1, at(20000, 160000)))
	d := strike(at(0, 1), 500000)
	x := mustDo(t, m, d)
	y := mustDo(t, m, croquet(at(0, 0), at(0, 1), 1, double()...))
	want := stateOf(m)
	spoil := func(x api.Move) { clear(x.Events[:cap(x.Events)]) }
	spoil(x.Move)
	spoil(y.Move)
	clear(y.Fault)
	if !sameStates(stateOf(m), want) {
		t.Errorf("a changed result has changed the match: %v, want %v", stateOf(m), want)
	}
	moves, places := m.Moves(), m.Places()
	for _, x := range moves {
		spoil(x)
	}
	clear(moves[:cap(moves)])
	clear(places[:cap(places)])
	if !sameStates(stateOf(m), want) {
		t.Errorf("a changed result has changed the match: %v, want %v", stateOf(m), want)
	}
	if z := done(t, "again", mustResume(t, setup(), turnOf(api.CodeShort), put(spread(), 1, at(20000, 160000))), d, struck(hit(1)), nil); z.Ticks != x.Ticks {
		t.Errorf("again: %v, and before %v", z, x)
	}
	text := "stroke 0 0 0 1 2 1\nmark 0 0 0 1\nmark 0 1 0 1\nstroke 0 0 0 1 2 1\nmark 0 2 0 1\n"
	l, _ := club.Parse(text)
	again, _ := club.Parse(text)
	l[0].Marks = append(l[0].Marks[:1], mark(1, 1, 1, 1))
	clear(l[1].Marks)
	if third, _ := club.Parse(text); !sameDoings(again, third) || sameDoings(l, third) {
		t.Errorf("Parse: %v, and then %v", again, third)
	}
	before := mustText(t, again)
	if !sameDoings(again, func() []api.Doing { l, _ := club.Parse(before); return l }()) {
		t.Errorf("Text has changed the doings: %v", again)
	}
}

// P12.1, P12.13: a copy goes on as the match would, and neither changes the other one.
func TestCopy(t *testing.T) {
	r := dice(13)
	for range 60 {
		m, x := anyMatch(t, r)
		copied, other := m.Copy(), *x
		for range 6 {
			if !sameStates(stateOf(copied), standing{other.g, other.at[:], other.moves}) {
				t.Fatalf("a copy: %v, want %v", stateOf(copied), other)
			}
			for range r.Intn(3) {
				agree(t, m, x, anyDoing(r, x))
			}
			for range r.Intn(3) {
				agree(t, copied, &other, anyDoing(r, &other))
			}
			if r.Intn(3) == 0 {
				copied, other = m.Copy(), *x
			}
			if x.g.Phase == api.PhaseOver || other.g.Phase == api.PhaseOver {
				break
			}
			if !sameStates(stateOf(m), standing{x.g, x.at[:], x.moves}) {
				t.Fatalf("a match with a copy: %v, want %v", stateOf(m), x)
			}
		}
	}
}

// P12.13: moves that are added to a match and to its copy do not get into each other's list.
func TestCopiedMoves(t *testing.T) {
	m := mustNew(t, setup())
	mustDo(t, m, opening()...)
	for range 30 {
		c := m.Copy()
		ball := m.Game().Side
		mustDo(t, c, choose(ball, at(0, 0)), pass())
		mustDo(t, m, pass())
		other := m.Copy()
		mustDo(t, other, choose(1-ball, at(0, 0)))
		mustDo(t, m, pass())
		for _, x := range []struct {
			m    *club.Match
			last int
		}{{m, api.MovePass}, {other, api.MoveChoose}, {c, api.MovePass}} {
			l := x.m.Moves()
			if l[len(l)-1].Kind != x.last {
				t.Fatalf("the moves: %v", l)
			}
		}
		if l := c.Moves(); l[len(l)-2].Kind != api.MoveChoose {
			t.Fatalf("the moves of a copy: %v", l)
		}
	}
}

// R4: matches that are nil, or were made otherwise.
func TestNoMatch(t *testing.T) {
	taken := *mustResume(t, setup(), overOf(api.CodeShort), spread())
	for name, m := range map[string]*club.Match{"nil": nil, "new": new(club.Match), "a struct": {}, "a struct that was copied": &taken} {
		if done, e := m.Do(api.Doing{}); !isNothing(done) || e != api.ErrNil {
			t.Errorf("%s: Do: %v, error %d", name, done, e)
		}
		if g := m.Game(); g != (api.Game{}) {
			t.Errorf("%s: Game: %v", name, g)
		}
		if l, moves := m.Places(), m.Moves(); len(l) > 0 || len(moves) > 0 {
			t.Errorf("%s: Places: %v, Moves: %v", name, l, moves)
		}
		if wired, e := m.Wired(9, 9); wired || e != api.ErrNil {
			t.Errorf("%s: Wired: %t, error %d", name, wired, e)
		}
		if s, e := m.Sheet(-1, -1, ann, ann); s != (api.Sheet{}) || e != api.ErrNil {
			t.Errorf("%s: Sheet: %v, error %d", name, s, e)
		}
		if c := m.Copy(); c != nil {
			t.Errorf("%s: Copy: %v", name, c)
		}
	}
}
