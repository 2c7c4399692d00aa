package event_test

import (
	"slices"
	"testing"

	"roquet/api"
	"roquet/event"
)

// The chapter's examples of draws.
func TestExampleDraws(t *testing.T) {
	if l := mustOrder(t, 8); !slices.Equal(l, []int{0, 7, 3, 4, 1, 6, 2, 5}) {
		t.Errorf("Order(8): %v", l)
	}
	slots := mustDraw(t, 5, 2, []int{1, 0, 0})
	if !slices.Equal(slots, []int{0, bye, 2, 4, 1, bye, 3, bye}) {
		t.Errorf("Draw of 5 players: %v", slots)
	}
	checkSides(t, slots, nil, [][2]int{{0, bye}, {2, 4}, {1, bye}, {3, bye}, {0, open}, {1, 3}, {open, open}}, open)
	l := []api.Score{sheet(1, 2, 1, 5), sheet(1, 1, 0, 9)}
	checkSides(t, slots, l, [][2]int{{0, bye}, {2, 4}, {1, bye}, {3, bye}, {0, 4}, {1, 3}, {open, open}}, open)
	l = append(l, sheet(4, 0, 0, 1), sheet(5, 0, 0, 1), sheet(6, 0, 0, 1))
	checkSides(t, slots, l, [][2]int{{0, bye}, {2, 4}, {1, bye}, {3, bye}, {0, 4}, {1, 3}, {0, 1}}, 0)
	for two, want := range map[[2]int]int{{0, 1}: 2, {2, 4}: 0} {
		if n, e := event.Meet(slots, two[0], two[1]); n != want || e != api.OK {
			t.Errorf("Meet of %v: %d, error %d, want %d", two, n, e, want)
		}
	}
}

// The chapter's examples of blocks.
func TestExampleBlocks(t *testing.T) {
	checkRounds(t, 3, [][][2]int{{{1, 2}}, {{0, 2}}, {{0, 1}}})
	if g, e := event.Game(4, 2, 1); g != 3 || e != api.OK {
		t.Errorf("Game(4, 2, 1): %d, error %d", g, e)
	}
	l := []api.Score{sheet(0, 0, 1, 7)}
	checkTable(t, 3, l, []api.Row{row(0, 1, 0, -7), row(1, 1, 1, 7), row(2, 0, 0, 0)}, 1, 2, 0)
	l = append(l, sheet(2, 0, 1, 3))
	checkTable(t, 3, l, []api.Row{row(0, 1, 0, -7), row(1, 2, 1, 4), row(2, 1, 1, 3)}, 2, 1, 0)
}

// The chapter's examples of slates.
func TestExampleSlates(t *testing.T) {
	l := []api.Fixture{fixture(0, 1, 60), fixture(0, 2, 60)}
	checkSlate(t, "example", l, two(1), 1, slot(100, 160), slot(300, 360))
	l[1].Peg = true
	checkSlate(t, "example, pegged", l, two(1), 1, slot(100, 160), slot(160, 320))
}

// The example of README.md.
func TestReadme(t *testing.T) {
	slots, e := event.Draw(5, 2, []int{1, 0, 0})
	if e != api.OK || !slices.Equal(slots, []int{0, bye, 2, 4, 1, bye, 3, bye}) {
		t.Errorf("Draw: %v, error %d", slots, e)
	}
	sheets := []api.Score{{Match: 1, Version: 2, Winner: 1, Plus: 5}, {Match: 1, Version: 1, Winner: 0, Plus: 9}}
	sides, e := event.Sides(slots, sheets)
	if e != api.OK || sides[4] != [2]int{0, 4} {
		t.Errorf("Sides: %v, error %d", sides, e)
	}
	slots, e = event.Substitute(slots, 3, 9)
	if e != api.OK || !slices.Equal(slots, []int{0, bye, 2, 4, 1, bye, 9, bye}) {
		t.Errorf("Substitute: %v, error %d", slots, e)
	}
	round, e := event.Meet(slots, 9, 1)
	if e != api.OK || round != 1 {
		t.Errorf("Meet: %d, error %d", round, e)
	}
	if _, e = event.Champion(slots, sheets); e != api.ErrNone {
		t.Errorf("Champion: error %d", e)
	}
	checkRounds(t, 3, [][][2]int{{{1, 2}}, {{0, 2}}, {{0, 1}}})
	last, e := event.Game(3, 2, 1)
	if e != api.OK || last != 2 {
		t.Errorf("Game: %d, error %d", last, e)
	}
	places, e := event.Places(3, []api.Score{{Match: 0, Winner: 1, Plus: 7}, {Match: last, Winner: 1, Plus: 3}})
	if e != api.OK || !slices.Equal(places, []int{2, 1, 0}) {
		t.Errorf("Places: %v, error %d", places, e)
	}
	days := []api.Session{{From: 100, To: 200, Lawns: 1}, {From: 300, To: 400, Lawns: 1}}
	games := []api.Fixture{{A: 0, B: 1, Minutes: 60}, {A: 0, B: 2, Minutes: 60, Peg: true}}
	checkSlate(t, "README", games, days, 1, slot(100, 160), slot(160, 320))
}
