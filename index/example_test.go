package index_test

import (
	"slices"
	"testing"

	"roquet/api"
	"roquet/game"
	"roquet/index"
)

// The chapter's examples.
func TestExamples(t *testing.T) {
	checkGain(t, 2000, 1500, true, 6)
	checkGain(t, 1500, 2000, true, 14)
	checkGain(t, 1500, 2000, false, 10)
	for grade, want := range map[int]int64{-12: 2480, 0: 2000, 1: 1950, 48: -400} {
		if n, e := index.Trigger(grade); n != want || e != api.OK {
			t.Errorf("Trigger(%d): %d, error %d, want %d", grade, n, e, want)
		}
	}
	checkCount(t, bob(), ann(), true, player("bob", 1514, 10), player("ann", 1986, 0))
	if h, e := index.Halves(ann(), cat()); h != [2]int{0, 20} || e != api.OK {
		t.Errorf("Halves of ann and cat: %v, error %d", h, e)
	}
	checkCount(t, player("cat", 1040, 20), bob(), false, player("cat", 1050, 19), player("bob", 1490, 10))
	first, second, last := standing("bob", 1, 1, 1, 17, 1), standing("ann", 1, 1, 1, 5, 1), standing("cat", 1, 1, 1, -22, 1)
	checkTable(t, "example", three(), ring(), 0, 100, first, second, last)
	checkBefore(t, first, second, api.PlacedNet)
}

// The example of README.md.
func TestReadme(t *testing.T) {
	players := []api.Player{{Name: "ann", Index: 2000, Grade: 0}, {Name: "bob", Index: 1500, Grade: 10}}
	win := api.Sheet{Number: 1, At: 5, Winner: "bob", Loser: "ann", Level: true, Points: [2]int{26, 20}}
	lost := win
	lost.Version, lost.Winner, lost.Loser = 1, win.Loser, win.Winner
	ledger, e := index.Merge([]api.Sheet{lost}, []api.Sheet{win, lost})
	if e != api.OK || !slices.Equal(ledger, []api.Sheet{lost, win}) {
		t.Errorf("Merge: %v, error %d", ledger, e)
	}
	books, e := index.Books(ledger)
	if e != api.OK || !slices.Equal(books, []api.Sheet{lost}) {
		t.Errorf("Books: %v, error %d", books, e)
	}
	players, e = index.Settle(players, ledger)
	if e != api.OK || !slices.Equal(players, []api.Player{{Name: "ann", Index: 2006, Grade: 0}, {Name: "bob", Index: 1494, Grade: 10}}) {
		t.Errorf("Settle: %v, error %d", players, e)
	}
	table, e := index.Table(players, ledger, 0, 100)
	if e != api.OK || !slices.Equal(table, []api.Standing{standing("ann", 1, 0, 0, 6, 0), standing("bob", 0, 1, 0, -6, 0)}) {
		t.Errorf("Table: %v, error %d", table, e)
	}
	i, rule, e := index.CheckTable(players, ledger, 0, 100, []string{"bob", "ann"})
	if i != 0 || rule != api.PlacedWon || e != api.ErrRule {
		t.Errorf("CheckTable: %d, %d, error %d", i, rule, e)
	}
	position, e := index.Begin(api.CodeAssociation, players[0], players[1])
	want, _ := game.New(api.CodeAssociation, [2]int{0, 10})
	if e != api.OK || position != want {
		t.Errorf("Begin: %v, error %d", position, e)
	}
}
