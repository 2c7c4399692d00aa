package index_test

import (
	"slices"
	"testing"

	"roquet/api"
	"roquet/index"
)

// refused checks that all functions with players and a ledger return an error, and nothing else, whatever else is wrong.
func refused(t *testing.T, p []api.Player, l []api.Sheet, want api.Errno) {
	t.Helper()
	if q, e := index.Settle(p, l); len(q) > 0 || e != want {
		t.Errorf("Settle(%v, %v): %v, error %d, want %d", brief(p), brief(l), q, e, want)
	}
	for _, name := range []string{"ann", "zoe", ""} {
		if h, e := index.History(p, l, name); len(h) > 0 || e != want {
			t.Errorf("History(%v, %v, %s): %v, error %d, want %d", brief(p), brief(l), name, h, e, want)
		}
	}
	for _, x := range [][2]int64{{0, 10}, {1, 0}, {-1, api.MaxNumbers + 1}} {
		if table, e := index.Table(p, l, x[0], x[1]); len(table) > 0 || e != want {
			t.Errorf("Table(%v, %v, %v): %v, error %d, want %d", brief(p), brief(l), x, table, e, want)
		}
		for _, names := range [][]string{nil, {"ann", "bob", "cat"}, {"bob", "ann", "cat"}, {"ann", "ann", "zoe"}} {
			if i, rule, e := index.CheckTable(p, l, x[0], x[1], names); i != 0 || rule != api.PlacedNone || e != want {
				t.Errorf("CheckTable(%v, %v, %v, %v): %d, %d, error %d, want %d", brief(p), brief(l), x, names, i, rule, e, want)
			}
		}
	}
}

// badLedgers are ledgers with their errors.
func badLedgers() map[api.Errno][]api.Sheet {
	return map[api.Errno][]api.Sheet{
		api.ErrMany: slices.Repeat([]api.Sheet{badSheets()[0]}, api.MaxSheets+1),
		api.ErrArg:  append(ring(), unlike()[0], badSheets()[0]),
		api.ErrHave: append(ring(), unlike()[0]),
	}
}

// P10.4, P10.6, P10.7: the errors of players come before all, then those of the ledger.
func TestOrderOfErrors(t *testing.T) {
	bad := badPlayers()[0]
	for want, p := range map[api.Errno][]api.Player{
		api.ErrMany: slices.Repeat([]api.Player{bad}, api.MaxPlayers+1),
		api.ErrArg:  append(three(), ann(), bad),
		api.ErrHave: append(three(), ann()),
	} {
		refused(t, p, ring(), want)
		for _, l := range badLedgers() {
			refused(t, p, l, want)
		}
	}
	for want, l := range badLedgers() {
		refused(t, three(), l, want)
		refused(t, nil, l, want)
		if b, e := index.Books(l); len(b) > 0 || e != want {
			t.Errorf("Books(%v): %v, error %d, want %d", brief(l), b, e, want)
		}
	}
	for _, x := range badPlayers() {
		refused(t, []api.Player{ann(), x}, ring(), api.ErrArg)
	}
	for _, s := range badSheets() {
		refused(t, three(), []api.Sheet{good(), s}, api.ErrArg)
	}
}

// refusedPair checks that all functions with two players return an error, and nothing else.
func refusedPair(t *testing.T, a, b api.Player, want api.Errno) {
	t.Helper()
	for _, level := range []bool{true, false} {
		if v, m, e := index.Count(a, b, level); v != (api.Player{}) || m != (api.Player{}) || e != want {
			t.Errorf("Count(%v, %v, %v): %v, %v, error %d, want %d", a, b, level, v, m, e, want)
		}
	}
	if h, e := index.Halves(a, b); h != [2]int{} || e != want {
		t.Errorf("Halves(%v, %v): %v, error %d, want %d", a, b, h, e, want)
	}
	for _, code := range []int{api.CodeAssociation, api.CodeAdvanced, -1, api.Codes} {
		if g, e := index.Begin(code, a, b); g != (api.Game{}) || e != want {
			t.Errorf("Begin(%d, %v, %v): %v, error %d, want %d", code, a, b, g, e, want)
		}
	}
}

// P10.4, P10.5: two players of whom one is not valid, or who have the same name.
func TestPairErrors(t *testing.T) {
	for _, x := range append(badPlayers(), api.Player{}) {
		for _, other := range []api.Player{ann(), x, player(x.Name, 0, 0)} {
			refusedPair(t, x, other, api.ErrArg)
			refusedPair(t, other, x, api.ErrArg)
		}
	}
	refusedPair(t, ann(), ann(), api.ErrHave)
	refusedPair(t, ann(), player("ann", 0, 48), api.ErrHave)
}

// P10.4: a name that no player has, also one that is in the ledger.
func TestHistoryErrors(t *testing.T) {
	for _, name := range append(badNames(), "zoe", "an", "annn", "cat") {
		if h, e := index.History([]api.Player{ann(), bob()}, ring(), name); len(h) > 0 || e != api.ErrNone {
			t.Errorf("History of %q: %v, error %d, want ErrNone", name, h, e)
		}
		if h, e := index.History(nil, nil, name); len(h) > 0 || e != api.ErrNone {
			t.Errorf("History of %q without players: %v, error %d, want ErrNone", name, h, e)
		}
	}
}

// R5: no argument is changed, and each result is new memory.
func TestMemory(t *testing.T) {
	p, l := three(), shuffled(dice(5), append(ring(), good(), void(ring()[1], 1)))
	q, o := slices.Clone(p), slices.Clone(l)
	room := append(make([]api.Sheet, 0, 50), l...)[:len(l)]
	names := []string{"cat", "bob", "ann"}
	index.CheckTable(p, l, 0, 100, names)
	merged, books, after := mustMerge(t, room, room), mustBooks(t, l), mustSettle(t, p, l)
	index.Merge(room, sheets(9))
	history, table := mustHistory(t, p, l, "ann"), mustTable(t, p, l, 0, 100)
	kept, keptTable := slices.Clone(books), slices.Clone(table)
	keptMerged, keptAfter, keptHistory := slices.Clone(merged), slices.Clone(after), slices.Clone(history)
	clear(merged)
	clear(books)
	clear(after)
	clear(history)
	clear(table)
	if !slices.Equal(p, q) || !slices.Equal(l, o) || !slices.Equal(room, o) || !slices.Equal(names, []string{"cat", "bob", "ann"}) {
		t.Errorf("arguments were changed: %v, %v, %v, %v", p, l, room, names)
	}
	if room[:cap(room)][len(room)] != (api.Sheet{}) {
		t.Errorf("the memory behind an argument was changed: %v", room[:cap(room)])
	}
	if !slices.Equal(mustMerge(t, l, l), keptMerged) || !slices.Equal(mustBooks(t, l), kept) || !slices.Equal(mustSettle(t, p, l), keptAfter) ||
		!slices.Equal(mustHistory(t, p, l, "ann"), keptHistory) || !slices.Equal(mustTable(t, p, l, 0, 100), keptTable) {
		t.Errorf("results are not the same again")
	}
}
