package event_test

import (
	"math"
	"slices"
	"testing"

	"roquet/api"
	"roquet/event"
)

// row returns a row of a table.
func row(player, games, wins, net int) api.Row {
	return api.Row{Player: player, Games: games, Wins: wins, Net: net}
}

// checkTable fails if the table of a block is not this one, or its places are not these.
func checkTable(t *testing.T, n int, l []api.Score, want []api.Row, places ...int) {
	t.Helper()
	if table := mustTable(t, n, l); !slices.Equal(table, want) {
		t.Errorf("Table(%d, %s): %v, want %v", n, brief(l), table, want)
	}
	if p := mustPlaces(t, n, l); !slices.Equal(p, places) {
		t.Errorf("Places(%d, %s): %v, want %v", n, brief(l), p, places)
	}
}

// P11.7: tables of small blocks.
func TestTable(t *testing.T) {
	checkTable(t, 2, nil, []api.Row{row(0, 0, 0, 0), row(1, 0, 0, 0)}, 0, 1)
	checkTable(t, 2, []api.Score{sheet(0, 0, 0, 26)}, []api.Row{row(0, 1, 1, 26), row(1, 1, 0, -26)}, 0, 1)
	checkTable(t, 2, []api.Score{sheet(0, 0, 1, 1)}, []api.Row{row(0, 1, 0, -1), row(1, 1, 1, 1)}, 1, 0)
	// A game counts once, with the sheet that counts; one that there is not is left alone.
	l := []api.Score{sheet(0, 0, 1, 1), sheet(0, 1, 0, 9), sheet(0, 1, 0, 9), sheet(1, 0, 0, 26), sheet(-1, 0, 0, 26), sheet(math.MaxInt, 0, 0, 26)}
	checkTable(t, 2, l, []api.Row{row(0, 1, 1, 9), row(1, 1, 0, -9)}, 0, 1)
	// 0 has lost to both, 1 has beaten 0 and lost to 2.
	l = []api.Score{sheet(0, 0, 1, 20), sheet(1, 0, 1, 3), sheet(2, 0, 1, 4)}
	checkTable(t, 3, l, []api.Row{row(0, 2, 0, -23), row(1, 2, 1, 16), row(2, 2, 2, 7)}, 2, 1, 0)
}

// P11.7: each rule decides before those behind it, and not before those that come first.
func TestPlaces(t *testing.T) {
	// Wins before wins among them, and before Net: 3 has won two by 1 each, but lost to 2, who has won one.
	l := []api.Score{sheet(2, 0, 1, 1), sheet(4, 0, 1, 1), sheet(5, 0, 0, 26)}
	checkTable(t, 4, l, []api.Row{row(0, 1, 0, -1), row(1, 1, 0, -1), row(2, 1, 1, 26), row(3, 3, 2, -24)}, 3, 2, 0, 1)
	// Among them before Net: 1 has beaten 0 by 1, who has beaten 2 by 26; 2 has beaten nobody.
	l = []api.Score{sheet(0, 0, 1, 1), sheet(1, 0, 0, 26)}
	checkTable(t, 3, l, []api.Row{row(0, 2, 1, 25), row(1, 1, 1, 1), row(2, 1, 0, -26)}, 1, 0, 2)
	// Wins against those with other Wins do not count among: 0 has beaten 3, 1 has beaten 2 (1 each); 2 and 3 have none. Net is for 1.
	l = []api.Score{sheet(2, 0, 0, 5), sheet(3, 0, 0, 6)}
	checkTable(t, 4, l, []api.Row{row(0, 1, 1, 5), row(1, 1, 1, 6), row(2, 1, 0, -6), row(3, 1, 0, -5)}, 1, 0, 3, 2)
	// All have beaten one of the others by as much: the lesser number.
	l = []api.Score{sheet(0, 0, 0, 5), sheet(2, 0, 0, 5), sheet(1, 0, 1, 5)}
	checkTable(t, 3, l, []api.Row{row(0, 2, 1, 0), row(1, 2, 1, 0), row(2, 2, 1, 0)}, 0, 1, 2)
	// And then by Net.
	l = []api.Score{sheet(0, 0, 0, 5), sheet(2, 0, 0, 6), sheet(1, 0, 1, 9)}
	checkTable(t, 3, l, []api.Row{row(0, 2, 1, -4), row(1, 2, 1, 1), row(2, 2, 1, 3)}, 2, 1, 0)
}

// P11.7: any block against the second version; in some of them all games are played.
func TestTableModel(t *testing.T) {
	r := dice(1107)
	for range 3000 {
		n := from(r, 2, api.MaxBlock)
		if r.Intn(2) == 0 {
			n = from(r, 2, 5)
		}
		games := n * (n - 1) / 2
		l := anySheets(r, 2*games, games)
		if r.Intn(2) == 0 {
			for number := range games {
				l = append(l, sheet(number, r.Intn(3), r.Intn(2), from(r, 1, 3)))
			}
		}
		checkTable(t, n, l, modelTable(n, l), modelPlaces(n, l)...)
	}
}

// P11.7, P11.2: numbers of players that there are not, and then sheets that are not valid.
func TestTableErrors(t *testing.T) {
	refused := func(n int, l []api.Score, want api.Errno) {
		t.Helper()
		if table, e := event.Table(n, l); len(table) > 0 || e != want {
			t.Errorf("Table(%d, %s): %v, error %d, want %d", n, brief(l), table, e, want)
		}
		if places, e := event.Places(n, l); len(places) > 0 || e != want {
			t.Errorf("Places(%d, %s): %v, error %d, want %d", n, brief(l), places, e, want)
		}
	}
	good := sheet(0, 0, 0, 1)
	many := slices.Repeat([]api.Score{good}, api.MaxScores+1)
	manyBad := slices.Repeat([]api.Score{{}}, api.MaxScores+1)
	for _, n := range noBlocks() {
		for _, l := range [][]api.Score{nil, {good}, many, manyBad, {{}}} {
			refused(n, l, api.ErrRange)
		}
	}
	for _, n := range []int{2, api.MaxBlock} {
		refused(n, many, api.ErrMany)
		refused(n, manyBad, api.ErrMany)
		for _, bad := range badSheets() {
			refused(n, []api.Score{bad}, api.ErrArg)
			refused(n, []api.Score{good, bad, good}, api.ErrArg)
		}
		if _, e := event.Table(n, many[:api.MaxScores]); e != api.OK {
			t.Errorf("Table of %d with %d sheets: error %d", n, api.MaxScores, e)
		}
	}
}
