package game_test

import (
	"slices"
	"testing"

	"roquet/api"
	"roquet/game"
)

// P5.4: all moves, or those before the first one that is an error.
func TestPlayAll(t *testing.T) {
	g := mustNew(t, api.CodeAssociation, [2]int{3, 0})
	opening := firstTurns()
	four := mustPlay(t, g, opening...)
	with := func(l ...api.Move) []api.Move { return slices.Concat(opening, l) }
	over := mustPlay(t, rover, strike(peg(2), peg(0)))
	for _, x := range []struct {
		name  string
		g     api.Game
		l     []api.Move
		want  api.Game
		count int
		error api.Errno
	}{
		{"none", g, nil, g, 0, api.OK},
		{"an empty list", four, []api.Move{}, four, 0, api.OK},
		{"the first four turns", g, opening, four, 8, api.OK},
		{"a stroke first", g, []api.Move{strike()}, g, 0, api.ErrState},
		{"a stroke too many", g, with(strike(), choose(0)), four, 8, api.ErrState},
		{"a pass with events", g, with(api.Move{Kind: api.MovePass, Events: events(hit(1))}), four, 8, api.ErrRule},
		{"too many events", g, with(choose(0), strike(slices.Repeat(events(hit(1)), 25)...)), mustPlay(t, four, choose(0)), 9, api.ErrMany},
		{"events that are not possible", g, with(choose(0), strike(hit(0))), mustPlay(t, four, choose(0)), 9, api.ErrRule},
		{"moves behind the end", rover, []api.Move{strike(peg(2), peg(0)), pass()}, over, 1, api.ErrState},
		{"most moves", four, times(1000, pass()), mustPlay(t, four, times(1000, pass())...), 1000, api.OK},
		{"too many moves", four, times(1001, pass()), api.Game{}, 0, api.ErrMany},
		{"too many moves, the first of which is wrong", four, times(1001, strike()), api.Game{}, 0, api.ErrMany},
		{"most moves, the first of which is wrong", four, times(1000, strike()), four, 0, api.ErrState},
		{"most moves, the last of which is wrong", four, append(times(999, pass()), strike()), mustPlay(t, four, times(999, pass())...), 999, api.ErrState},
	} {
		if end, n, e := game.PlayAll(x.g, x.l); end != x.want || n != x.count || e != x.error {
			t.Errorf("%s: %v, %d, error %d, want %v, %d, error %d", x.name, end, n, e, x.want, x.count, x.error)
		}
	}
}

// P5.4, R5: any moves come to what they come to one by one, and are not changed.
func TestPlayAllOfAll(t *testing.T) {
	r := dice(60)
	for range 2000 {
		start := anyGame(r)
		g, l := start, []api.Move(nil)
		for range r.Intn(40) {
			if g.Phase == api.PhaseOver {
				break
			}
			m := anyMove(t, r, g)
			g, l = mustPlay(t, g, m), append(l, m)
		}
		count, want := len(l), api.OK
		if r.Intn(2) == 0 {
			l, want = append(l, api.Move{Kind: api.MoveChoose, Ball: 9}, pass()), api.ErrState
		}
		before := make([]api.Move, len(l))
		for i, m := range l {
			m.Events = slices.Clone(m.Events)
			before[i] = m
		}
		if end, n, e := game.PlayAll(start, l); end != g || n != count || e != want {
			t.Fatalf("PlayAll(%v, %v): %v, %d, error %d, want %v, %d, error %d", start, l, end, n, e, g, count, want)
		}
		if !sameMoves(l, before) {
			t.Fatalf("PlayAll has changed its moves: %v, not %v", l, before)
		}
	}
}
