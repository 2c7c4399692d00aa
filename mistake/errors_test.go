package mistake_test

import (
	"slices"
	"testing"

	"roquet/api"
	"roquet/game"
	"roquet/mistake"
)

// refused checks that Replay returns what the deeds before one come to, and the error of this one, and the other functions nothing but this error.
func refused(t *testing.T, name string, g api.Game, l []api.Deed, count int, want api.Errno) {
	t.Helper()
	before := mustReplay(t, g, l[:count])
	if o, n, e := mistake.Replay(g, l); !sameOutcome(o, before) || n != count || e != want {
		t.Errorf("%s: Replay(%v, %v): %v, %d, error %d, want %v, %d, error %d", name, g, l, o, n, e, before, count, want)
	}
	if c, e := mistake.Clean(g, l); len(c) > 0 || e != want {
		t.Errorf("%s: Clean(%v, %v): %v, error %d, want %d", name, g, l, c, e, want)
	}
	if would, e := mistake.Would(g, l); would != (api.Game{}) || e != want {
		t.Errorf("%s: Would(%v, %v): %v, error %d, want %d", name, g, l, would, e, want)
	}
}

// P7.3, P7.4: the errors of all kinds of deeds.
func TestReplayErrors(t *testing.T) {
	on := turnOf(api.CodeAssociation)
	start := startOf(api.CodeShort)
	many := slices.Repeat([]api.Event{hoop(2)}, 25)
	kind := func(kind int, d api.Deed) api.Deed { d.Kind = kind; return d }
	for _, x := range []struct {
		name  string
		g     api.Game
		l     []api.Deed
		count int
		want  api.Errno
	}{
		{"no deed", on, deeds(api.Deed{}), 0, api.ErrArg},
		{"the kind 0 of a move", on, deeds(strike(hit(1)), kind(0, strike())), 1, api.ErrArg},
		{"the kind 4 of a wrong stroke", on, deeds(strike(hit(1)), kind(4, otherBall(2))), 1, api.ErrArg},
		{"the kind -1 of a claim", on, deeds(otherBall(2), kind(-1, claim(0))), 1, api.ErrArg},
		{"the wrong stroke 0", on, deeds(wrong(0, 2)), 0, api.ErrArg},
		{"the wrong stroke 4", on, deeds(wrong(4, 2)), 0, api.ErrArg},
		{"the wrong stroke -1 with too many events", on, deeds(wrong(-1, 2, many...)), 0, api.ErrArg},

		{"a move that is not allowed", on, deeds(strike(hit(1)), choose(0)), 1, api.ErrState},
		{"a move of no kind", on, deeds(moved(api.Move{})), 0, api.ErrState},
		{"a stroke with too many events", on, deeds(strike(hit(1)), strike(many...)), 1, api.ErrMany},
		{"a stroke with events that are not possible", on, deeds(strike(hit(0))), 0, api.ErrRule},
		{"a pass with events", on, deeds(pass(), moved(api.Move{Kind: api.MovePass, Events: many[:1]})), 1, api.ErrRule},
		{"a move when the game is over", with(on, points(12, 0, 12, 0)), deeds(strike(peg(2), peg(0)), pass()), 1, api.ErrState},

		{"a wrong stroke that is not possible", on, deeds(strike(hoop(0)), otherBall(1)), 1, api.ErrState},
		{"a wrong stroke that is not possible, with too many events", on, deeds(otherBall(1, many...)), 0, api.ErrState},
		{"a wrong stroke that is not possible, with a wrong event", start, deeds(outOfTurn(1, hit(1))), 0, api.ErrState},
		{"a wrong stroke with too many events", on, deeds(strike(hoop(0)), otherBall(2, many...)), 1, api.ErrMany},
		{"a wrong stroke with most events", on, deeds(otherBall(2, many[:24]...), strike(many...)), 1, api.ErrMany},
		{"a wrong stroke with a hit of the ball that is struck", on, deeds(otherBall(2, hit(2))), 0, api.ErrRule},
		{"a wrong stroke with a hit of the ball 4", start, deeds(outOfTurn(0, hit(4))), 0, api.ErrRule},
		{"a wrong stroke with a fault before its end", on, deeds(notRoqueted(1, fault(), hit(1))), 0, api.ErrRule},
		{"a wrong stroke with a ball out of play", with(on, peggedOut(3)), deeds(otherBall(2, hoop(3))), 0, api.ErrRule},
		{"a wrong stroke with the kind of event 6", on, deeds(notRoqueted(1, event(6, 1))), 0, api.ErrRule},

		{"a claim at first", on, deeds(claim(0)), 0, api.ErrNone},
		{"a claim about a move", on, deeds(strike(hoop(0)), otherBall(2), claim(0)), 2, api.ErrNone},
		{"a claim about itself", on, deeds(otherBall(2), claim(1)), 1, api.ErrNone},
		{"a claim about a later deed", on, deeds(otherBall(2, hoop(2)), claim(2), notRoqueted(1)), 1, api.ErrNone},
		{"a claim about no deed", on, deeds(otherBall(2), claim(100)), 1, api.ErrNone},
		{"a claim about a number below 0", on, deeds(otherBall(2), claim(-1)), 1, api.ErrNone},
		{"a claim about a claim that was late", start, deeds(outOfTurn(0, hoop(0)), strike(hoop(0)), strike(), claim(0), claim(3)), 4, api.ErrNone},
		{"a claim about a claim that was in time", on, deeds(otherBall(2), claim(0), claim(1)), 2, api.ErrNone},
		{"a claim about a move that was cancelled", on, deeds(otherBall(2, hoop(2)), strike(), claim(0), claim(1)), 3, api.ErrNone},

		{"a claim again, though the first was in time", on, deeds(otherBall(2), claim(0), claim(0)), 2, api.ErrOld},
		{"a claim again, with a pass in between", on, deeds(otherBall(2), claim(0), choose(1), claim(0)), 3, api.ErrOld},
		{"a claim again, after a stroke out of turn", start, deeds(outOfTurn(0), claim(0), claim(0)), 2, api.ErrOld},
		{"a claim again, though the first was late", start, deeds(outOfTurn(0, hoop(0)), strike(hoop(0)), strike(), claim(0), claim(0)), 4, api.ErrOld},
		{"a claim about a wrong stroke that was cancelled", on, deeds(otherBall(2, hoop(2)), notRoqueted(1), claim(0), claim(1)), 3, api.ErrOld},
		{"a claim about one that was rectified, and then cancelled", on, deeds(otherBall(2, hoop(2)), notRoqueted(1), claim(1), claim(0), claim(1)), 4, api.ErrOld},
		{"a claim again, though the first was cancelled, and would be in time now", on, deeds(
			notRoqueted(1, hoop(0)), otherBall(2, hoop(2)), strike(hoop(2)), strike(hoop(2)), claim(0), claim(1), claim(0)), 6, api.ErrOld},
	} {
		refused(t, x.name, x.g, x.l, x.count, x.want)
	}
}

// P7.3: deeds behind the first one that is an error are not looked at.
func TestFirstError(t *testing.T) {
	on := turnOf(api.CodeFormer)
	bad := []struct {
		d api.Deed
		e api.Errno
	}{
		{api.Deed{}, api.ErrArg}, {choose(0), api.ErrState}, {otherBall(1), api.ErrState}, {strike(hit(0)), api.ErrRule},
		{otherBall(2, hit(2)), api.ErrRule}, {claim(7), api.ErrNone}, {strike(make([]api.Event, 25)...), api.ErrMany},
	}
	for _, x := range bad {
		for _, y := range bad {
			refused(t, "two errors", on, deeds(strike(hit(1)), x.d, strike(), y.d), 1, x.e)
		}
	}
}

// P7.3, P7.4: that a position is not legal comes first, and then that there are too many deeds.
func TestRecordErrors(t *testing.T) {
	on := turnOf(api.CodeShort)
	spoilt := with(on, func(g *api.Game) { g.Dead[0] = true })
	bad := api.Deed{Kind: 7}
	for _, x := range []struct {
		name string
		g    api.Game
		l    []api.Deed
		want api.Errno
	}{
		{"no position", api.Game{}, nil, api.ErrArg},
		{"a position that is not legal", spoilt, deeds(pass()), api.ErrArg},
		{"a position that is not legal, and too many deeds", spoilt, times(401, bad), api.ErrArg},
		{"a position that is not legal, and a claim about nothing", spoilt, deeds(claim(0)), api.ErrArg},
		{"too many deeds", with(on, ended(none)), times(401, pass()), api.ErrMany},
		{"too many deeds that are not valid", on, times(401, bad), api.ErrMany},
		{"far too many deeds", on, times(100000, pass()), api.ErrMany},
	} {
		if o, n, e := mistake.Replay(x.g, x.l); !isNothing(o) || n != 0 || e != x.want {
			t.Errorf("%s: Replay: %v, %d, error %d", x.name, o, n, e)
		}
		if c, e := mistake.Clean(x.g, x.l); len(c) > 0 || e != x.want {
			t.Errorf("%s: Clean: %v, error %d", x.name, c, e)
		}
		if g, e := mistake.Would(x.g, x.l); g != (api.Game{}) || e != x.want {
			t.Errorf("%s: Would: %v, error %d", x.name, g, e)
		}
	}
}

// P7.3, P7.4: at the limit, 400 deeds, a record is still possible.
func TestMostDeeds(t *testing.T) {
	start := startOf(api.CodeAdvanced)
	passes := times(400, pass())
	o := mustReplay(t, start, passes)
	if want, _, e := game.PlayAll(start, slices.Repeat([]api.Move{{Kind: api.MovePass}}, 400)); o.Game != want || e != api.OK || len(o.Stands) != 400 || o.Stands[399] != 399 {
		t.Errorf("400 passes: %v, want %v", o, want)
	}
	if c := mustClean(t, start, passes); !sameDeeds(c, passes) {
		t.Errorf("400 passes: %d deeds", len(c))
	}
	if would, e := mistake.Would(start, passes); would != o.Game || e != api.OK {
		t.Errorf("400 passes: %v, error %d", would, e)
	}
	refused(t, "the last of the most deeds", start, join(times(399, pass()), deeds(claim(0))), 399, api.ErrNone)
	refused(t, "the first of the most deeds", start, times(400, api.Deed{}), 0, api.ErrArg)
	// As many claims as there can be, each in time.
	var l []api.Deed
	for i := range 200 {
		l = append(l, outOfTurn(0, hoop(0)), claim(2*i))
	}
	if o := mustReplay(t, start, l); o.Game != start || len(o.Stands) > 0 || len(o.Rulings) != 200 {
		t.Errorf("200 claims: %v", o)
	}
	if c := mustClean(t, start, l); len(c) > 0 {
		t.Errorf("200 claims: %v", c)
	}
}
