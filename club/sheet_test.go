package club_test

import (
	"math"
	"strings"
	"testing"

	"roquet/api"
	"roquet/club"
	"roquet/game"
	"roquet/index"
)

var ann, bob = api.Player{Name: "ann", Index: 2000, Grade: -3}, api.Player{Name: "bob", Index: -77, Grade: 60}

// winOf returns a position in which a side has won, and the points of the balls of the other one.
func winOf(code, side, one, other int) api.Game {
	return overOf(code, func(g *api.Game) {
		g.Winner = side
		for ball := range 4 {
			if ball%2 == side {
				g.Points[ball], g.In[ball] = api.PeggedOut, false
				continue
			}
			g.Points[ball] = []int{one, other}[ball/2]
			g.In[ball] = g.Points[ball] != api.PeggedOut
		}
	})
}

// P12.5: the sheet of a match that is over.
func TestSheet(t *testing.T) {
	for _, x := range []struct {
		s    api.Setup
		g    api.Game
		want api.Sheet
	}{
		{setup(), winOf(api.CodeShort, 0, 3, 5), api.Sheet{Winner: "ann", Loser: "bob", Level: true, Points: [2]int{14, 8}}},
		{setup(), winOf(api.CodeShort, 1, 0, 0), api.Sheet{Winner: "bob", Loser: "ann", Level: true, Points: [2]int{14, 0}}},
		{setup(), winOf(api.CodeShort, 1, api.PeggedOut, 6), api.Sheet{Winner: "bob", Loser: "ann", Level: true, Points: [2]int{14, 13}}},
		{setupWith(halves(0, 1)), winOf(api.CodeShort, 0, 0, 1), api.Sheet{Winner: "ann", Loser: "bob", Points: [2]int{14, 1}}},
		{setupWith(halves(40, 0)), winOf(api.CodeShort, 0, 0, 1), api.Sheet{Winner: "ann", Loser: "bob", Points: [2]int{14, 1}}},
		{setupWith(codeIs(api.CodeAssociation), halves(2, 2)), winOf(api.CodeAssociation, 1, 12, 12), api.Sheet{Winner: "bob", Loser: "ann", Points: [2]int{26, 24}}},
		{setupWith(codeIs(api.CodeFormer)), winOf(api.CodeFormer, 0, api.PeggedOut, 12), api.Sheet{Winner: "ann", Loser: "bob", Level: true, Points: [2]int{26, 25}}},
		{setupWith(codeIs(api.CodeAdvanced)), winOf(api.CodeAdvanced, 1, 4, 7), api.Sheet{Winner: "bob", Loser: "ann", Level: true, Points: [2]int{26, 11}}},
		// Half bisques that are left in the position do not matter, nor that none are left.
		{setup(), with(winOf(api.CodeShort, 0, 3, 5), func(g *api.Game) { g.Halves = [2]int{3, 4} }), api.Sheet{Winner: "ann", Loser: "bob", Level: true, Points: [2]int{14, 8}}},
	} {
		m := mustResume(t, x.s, x.g, spread())
		for _, n := range []int64{0, 7, api.MaxNumbers} {
			want := x.want
			want.Number, want.At = n, api.MaxNumbers-n
			if s, e := m.Sheet(n, api.MaxNumbers-n, ann, bob); s != want || e != api.OK {
				t.Errorf("Sheet: %v, error %d, want %v", s, e, want)
			}
		}
	}
}

// P12.5: sheets that are not possible.
func TestSheetErrors(t *testing.T) {
	over := mustResume(t, setup(), overOf(api.CodeShort), spread())
	for name, m := range map[string]*club.Match{
		"a new match": mustNew(t, setup()), "a turn": mustResume(t, setup(), turnOf(api.CodeShort), spread()), "two turns": mustResume(t, setup(), startOf(api.CodeShort), spread()),
	} {
		for _, n := range []int64{-1, 5} {
			if s, e := m.Sheet(n, n, ann, ann); s != (api.Sheet{}) || e != api.ErrState {
				t.Errorf("%s: Sheet: %v, error %d", name, s, e)
			}
		}
	}
	named := func(name string) api.Player { return api.Player{Name: name} }
	for _, x := range []struct {
		number, at int64
		a, b       api.Player
	}{
		{-1, 0, ann, bob}, {api.MaxNumbers + 1, 0, ann, bob}, {0, -1, ann, bob}, {0, api.MaxNumbers + 1, ann, bob}, {math.MinInt64, 0, ann, bob}, {0, math.MaxInt64, ann, bob},
		{0, 0, ann, ann}, {0, 0, named(""), bob}, {0, 0, ann, named("")}, {0, 0, named("Ann"), bob}, {0, 0, ann, named("b b")}, {0, 0, ann, named(strings.Repeat("b", 21))},
	} {
		if s, e := over.Sheet(x.number, x.at, x.a, x.b); s != (api.Sheet{}) || e != api.ErrArg {
			t.Errorf("Sheet(%d, %d, %v, %v): %v, error %d", x.number, x.at, x.a, x.b, s, e)
		}
	}
}

// P12.12: the winner of a sheet is the side that has pegged out, in a match that is played to its end.
func TestPlayedOut(t *testing.T) {
	names := []string{"ann", "bob"}
	for side := range 2 {
		g := turnOf(api.CodeShort, turnBy(side), croquetOf(side+2), points(6, 6, 6, 6))
		m := mustResume(t, setup(), g, put(spread(), side+2, at(50000, 80000)))
		// The partner is pegged out, and comes back from the peg; then nothing stands between.
		done(t, "the partner", m, croquet(at(50000, 0), at(0, 1), 2000000), struck(hit(side+2), peg(side+2), hit(side+2)), nil)
		if s, e := m.Sheet(1, 2, ann, bob); s != (api.Sheet{}) || e != api.ErrState {
			t.Errorf("Sheet of a match that goes on: %v, error %d", s, e)
		}
		done(t, "the striker's ball", m, strike(at(0, 1), 2000000), struck(peg(side)), nil)
		s, e := m.Sheet(1, 2, ann, bob)
		if e != api.OK || s.Winner != names[side] || s.Loser != names[1-side] || s.Points != [2]int{14, 12} {
			t.Errorf("Sheet: %v, error %d", s, e)
		}
		if p := m.Places(); p[side] != (api.Point{}) || p[side+2] != (api.Point{}) || p[1-side] != spread()[1-side] {
			t.Errorf("at the end: %v", p)
		}
		refused(t, "it is over", m, pass(), api.ErrState)
	}
}

// P12.12: the sheet of any match that is over is valid, and so says its position.
func TestSheetsAreValid(t *testing.T) {
	r := dice(12)
	for range 300 {
		s := anySetup(r)
		g := anyGame(r, s.Code)
		m := mustResume(t, s, g, anyPlaces(r, s, g))
		x, e := m.Sheet(r.Int63n(1<<40), r.Int63n(1<<40), ann, bob)
		if (e == api.OK) != (g.Phase == api.PhaseOver) {
			t.Errorf("Sheet in %v: error %d", g, e)
		}
		if e != api.OK {
			continue
		}
		score, _ := game.Score(g)
		if index.CheckSheet(x) != api.OK || x.Winner != []string{"ann", "bob"}[g.Winner] || x.Points != [2]int{score[g.Winner], score[1-g.Winner]} || x.Level != (s.Halves == [2]int{}) || x.Void || x.Version != 0 {
			t.Errorf("Sheet in %v by %v: %v", g, s, x)
		}
	}
}
