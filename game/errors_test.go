package game_test

import (
	"math"
	"reflect"
	"slices"
	"testing"

	"roquet/api"
	"roquet/game"
)

// calls are all functions with a position, each with whatever else it is given; they return the results without the error.
func calls(m api.Move, l []api.Move) map[string]func(g api.Game) ([]any, api.Errno) {
	return map[string]func(g api.Game) ([]any, api.Errno){
		"Check": func(g api.Game) ([]any, api.Errno) { return nil, game.Check(g) },
		"Moves": func(g api.Game) ([]any, api.Errno) {
			l, e := game.Moves(g)
			return []any{l}, e
		},
		"Live": func(g api.Game) ([]any, api.Errno) {
			l, e := game.Live(g)
			return []any{l}, e
		},
		"Play": func(g api.Game) ([]any, api.Errno) {
			next, e := game.Play(g, m)
			return []any{next}, e
		},
		"PlayAll": func(g api.Game) ([]any, api.Errno) {
			next, n, e := game.PlayAll(g, l)
			return []any{next, n}, e
		},
		"Score": func(g api.Game) ([]any, api.Errno) {
			score, e := game.Score(g)
			return []any{score}, e
		},
	}
}

// allZero reports whether all results are zero values.
func allZero(l []any) bool {
	for _, x := range l {
		if v := reflect.ValueOf(x); !v.IsZero() {
			return false
		}
	}
	return true
}

// P5.1 to P5.5: that a position is not legal comes before all other errors, and all else is zero then.
func TestErrArgFirst(t *testing.T) {
	bad := []api.Move{
		{}, pass(), strike(), strike(make([]api.Event, 99)...), {Kind: 77, Ball: math.MaxInt, Events: make([]api.Event, 25)},
	}
	r := dice(58)
	for range 3000 {
		g := spoilt(r, anyGame(r))
		if modelLegal(g) {
			continue
		}
		for name, call := range calls(among(r, bad...), slices.Repeat(bad, among(r, 0, 1, 201))) {
			if l, e := call(g); e != api.ErrArg || !allZero(l) {
				t.Fatalf("%s of %v: %v, error %d", name, g, l, e)
			}
		}
	}
	if l, e := game.Moves(api.Game{}); e != api.ErrArg || len(l) != 0 {
		t.Errorf("Moves of the zero position: %v, error %d", l, e)
	}
}

// P5.3: the errors of a move, in order.
func TestPlayErrors(t *testing.T) {
	start := with(open, ended(0))
	over := with(turnOf(api.CodeShort), points(13, 1, 13, 2), won(0))
	many := slices.Repeat(events(hoop(1)), 25)
	some := events(hoop(1))
	withEvents := func(m api.Move, l []api.Event) api.Move {
		m.Events = l
		return m
	}
	for _, x := range []struct {
		name string
		g    api.Game
		m    api.Move
		want api.Errno
	}{
		{"a stroke at the start", start, strike(), api.ErrState},
		{"a stroke at the start, with too many events", start, strike(many...), api.ErrState},
		{"a stroke at the end", over, strike(), api.ErrState},
		{"a pass at the end", over, pass(), api.ErrState},
		{"a pass in the first turns", mustNew(t, api.CodeShort, [2]int{}), pass(), api.ErrState},
		{"a choice in a turn", open, choose(0), api.ErrState},
		{"a choice in a turn, with events", open, withEvents(choose(0), some), api.ErrState},
		{"a ball of the other side", start, choose(0), api.ErrState},
		{"the ball 5", start, choose(5), api.ErrState},
		{"the ball -1", start, choose(-1), api.ErrState},
		{"a lift that is not there", start, lift(1), api.ErrState},
		{"a stroke with a ball", open, api.Move{Kind: api.MoveStroke, Ball: 2}, api.ErrState},
		{"a stroke with a lift", open, api.Move{Kind: api.MoveStroke, Lift: true}, api.ErrState},
		{"a pass with a ball", open, api.Move{Kind: api.MovePass, Ball: 1}, api.ErrState},
		{"a pass with a lift", start, api.Move{Kind: api.MovePass, Lift: true}, api.ErrState},
		{"a bisque with the other ball", start, bisque(2), api.ErrState},
		{"a bisque with a lift", start, api.Move{Kind: api.MoveBisque, Lift: true}, api.ErrState},
		{"a half with a lift", start, api.Move{Kind: api.MoveHalf, Lift: true}, api.ErrState},
		{"a bisque with one half left", with(start, func(g *api.Game) { g.Halves[0] = 1 }), bisque(0), api.ErrState},
		{"a half with none left", with(start, func(g *api.Game) { g.Halves[0] = 0 }), half(0), api.ErrState},
		{"a bisque in a turn", open, bisque(0), api.ErrState},
		{"no kind", open, api.Move{}, api.ErrState},
		{"the kind 6", start, api.Move{Kind: 6, Ball: 1}, api.ErrState},
		{"the kind -1, with too many events", start, api.Move{Kind: -1, Events: many}, api.ErrState},

		{"most events", open, strike(many[:24]...), api.OK},
		{"too many events", open, strike(many...), api.ErrMany},
		{"too many events that are not possible", open, strike(make([]api.Event, 25)...), api.ErrMany},
		{"too many events of a pass", open, withEvents(pass(), many), api.ErrMany},
		{"too many events of a choice", start, withEvents(choose(1), many), api.ErrMany},

		{"events of a pass", open, withEvents(pass(), some), api.ErrRule},
		{"events of a pass at the start", start, withEvents(pass(), some), api.ErrRule},
		{"events of a choice", start, withEvents(choose(1), some), api.ErrRule},
		{"events of a bisque", start, withEvents(bisque(0), some), api.ErrRule},
		{"events of half a bisque", start, withEvents(half(0), some), api.ErrRule},
		{"as many events as possible of a bisque", start, withEvents(bisque(0), many[:24]), api.ErrRule},
		{"an empty list of events", start, withEvents(bisque(0), []api.Event{}), api.OK},

		{"the kind of event 0", open, strike(event(0, 1)), api.ErrRule},
		{"the kind of event 6", open, strike(event(6, 1)), api.ErrRule},
		{"the kind of event -1", open, strike(event(-1, 1)), api.ErrRule},
		{"the ball 4", open, strike(hoop(4)), api.ErrRule},
		{"the ball -1 at the peg", open, strike(peg(-1)), api.ErrRule},
		{"a far ball off", open, strike(off(math.MaxInt)), api.ErrRule},
		{"a hit of the ball 4", open, strike(hit(4)), api.ErrRule},
		{"a hit of the striker's ball", open, strike(hit(0)), api.ErrRule},
		{"a hit of it behind another one", open, strike(hit(1), hit(0)), api.ErrRule},
		{"a hit of a dead ball", with(going, dead(1)), strike(hit(1)), api.OK},
		{"a fault before the last", open, strike(fault(), hit(1)), api.ErrRule},
		{"two faults", open, strike(fault(), fault()), api.ErrRule},
		{"a fault of any ball", open, strike(event(api.EventFault, math.MinInt)), api.OK},
	} {
		next, e := game.Play(x.g, x.m)
		if e != x.want || e != api.OK && next != (api.Game{}) {
			t.Errorf("%s: Play(%v, %v): %v, error %d, want %d", x.name, x.g, x.m, next, e, x.want)
		}
	}
}

// P5.3: no event is possible of a ball that was not in play at the beginning, but a fault.
func TestPlayNotInPlay(t *testing.T) {
	pegged := with(rover, points(12, 13, 12, 12))
	never := with(turnOf(api.CodeFormer), func(g *api.Game) {
		g.Turns, g.In, g.Points, g.Began = 1, [4]bool{true}, [4]int{}, 0
	})
	for _, g := range []api.Game{pegged, never} {
		for _, kind := range []int{api.EventHit, api.EventHoop, api.EventPeg, api.EventOff} {
			if next, e := game.Play(g, strike(event(kind, 1))); next != (api.Game{}) || e != api.ErrRule {
				t.Errorf("event %d of the ball 1 in %v: %v, error %d", kind, g, next, e)
			}
		}
		if next, e := game.Play(g, strike(event(api.EventFault, 1))); next != with(g, ended(next.Last)) || e != api.OK {
			t.Errorf("a fault in %v: %v, error %d", g, next, e)
		}
	}
	// A ball that is pegged out in the stroke was in play at its beginning.
	if next, e := game.Play(rover, strike(peg(1), hit(1))); next != with(rover, peggedOut(1), ended(0)) || e != api.OK {
		t.Errorf("a hit of a ball that was pegged out: %v, error %d", next, e)
	}
}

// P5.3: which events are possible, of any that there may be.
func TestPossibleOfAll(t *testing.T) {
	r := dice(59)
	seen := map[api.Errno]int{}
	for range 60000 {
		g := anyGame(r)
		if !inTurn(g) {
			continue
		}
		l := anyEvents(r, g)
		for range r.Intn(2) {
			x := event(among(r, -1, 0, 1, 2, 3, 4, 5, 6), among(r, -1, 0, 1, 2, 3, 4, math.MaxInt))
			l = slices.Insert(l, r.Intn(len(l)+1), x)
		}
		want := api.OK
		if len(l) > 24 {
			want = api.ErrMany
		} else if !modelPossible(g, l) {
			want = api.ErrRule
		}
		seen[want]++
		if _, e := game.Play(g, strike(l...)); e != want {
			t.Fatalf("Play(%v, %v): error %d, want %d", g, l, e, want)
		}
	}
	if seen[api.OK] < 5000 || seen[api.ErrRule] < 5000 || seen[api.ErrMany] < 100 {
		t.Errorf("errors %v", seen)
	}
}
