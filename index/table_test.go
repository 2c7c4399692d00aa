package index_test

import (
	"math"
	"slices"
	"testing"

	"roquet/api"
	"roquet/index"
)

// standing returns a standing.
func standing(name string, won, lost, among, net, worth int) api.Standing {
	return api.Standing{Name: name, Won: won, Lost: lost, Among: among, Net: net, Worth: worth}
}

// checkTable fails if a table is not this one, or CheckTable does not agree with it.
func checkTable(t *testing.T, name string, p []api.Player, l []api.Sheet, from, to int64, want ...api.Standing) {
	t.Helper()
	if table, e := index.Table(p, l, from, to); !slices.Equal(table, want) || e != api.OK {
		t.Errorf("Table, %s, of %v, %d to %d: %v, error %d, want %v", name, brief(l), from, to, table, e, want)
	}
	checkNames(t, p, l, from, to, namesOf(want), 0, api.PlacedNone, api.OK)
}

// checkNames fails if CheckTable does not return this for names.
func checkNames(t *testing.T, p []api.Player, l []api.Sheet, from, to int64, names []string, i, rule int, want api.Errno) {
	t.Helper()
	if k, n, e := index.CheckTable(p, l, from, to, names); k != i || n != rule || e != want {
		t.Errorf("CheckTable(%v, %v, %d, %d, %v): %d, %d, error %d, want %d, %d, %d", p, brief(l), from, to, names, k, n, e, i, rule, want)
	}
}

// P10.6: what is counted of whom.
func TestTable(t *testing.T) {
	checkTable(t, "nothing", nil, nil, 0, 0)
	checkTable(t, "no players", nil, ring(), 0, 100)
	checkTable(t, "no sheets", []api.Player{bob(), ann()}, nil, 0, 100, standing("ann", 0, 0, 0, 0, 0), standing("bob", 0, 0, 0, 0, 0))
	checkTable(t, "one player", []api.Player{bob()}, ring(), 0, 100, standing("bob", 0, 0, 0, 0, 0))
	checkTable(t, "one game", three(), ring()[:1], 0, 100, standing("ann", 1, 0, 0, 6, 0), standing("cat", 0, 0, 0, 0, 0), standing("bob", 0, 1, 0, -6, 0))
	checkTable(t, "two games", three(), ring()[:2], 0, 100, standing("ann", 1, 0, 1, 6, 1), standing("bob", 1, 1, 0, 17, 0), standing("cat", 0, 1, 0, -23, 0))
}

// P10.6: only games of the season, and of the books, in which both are players.
func TestTableSeason(t *testing.T) {
	p := []api.Player{ann(), bob()}
	first, second := standing("ann", 1, 0, 0, 6, 0), standing("bob", 0, 1, 0, -6, 0)
	none := []api.Standing{standing("ann", 0, 0, 0, 0, 0), standing("bob", 0, 0, 0, 0, 0)}
	for _, x := range []struct {
		from, to int64
		in       bool
	}{
		{0, 5, false}, {0, 6, true}, {5, 6, true}, {5, 5, false}, {6, 6, false}, {6, api.MaxNumbers, false}, {5, api.MaxNumbers, true}, {0, 0, false}, {api.MaxNumbers, api.MaxNumbers, false},
	} {
		if x.in {
			checkTable(t, "in the season", p, ring(), x.from, x.to, first, second)
		} else {
			checkTable(t, "out of it", p, ring(), x.from, x.to, none...)
		}
	}
	last := sheet(9, api.MaxNumbers, "ann", "bob", 3, 1)
	checkTable(t, "too late for any season", p, []api.Sheet{last}, 0, api.MaxNumbers, none...)
	last.At--
	checkTable(t, "the last time of all", p, []api.Sheet{last}, api.MaxNumbers-1, api.MaxNumbers, standing("ann", 1, 0, 0, 2, 0), standing("bob", 0, 1, 0, -2, 0))
	first.Net, second.Net = 26, -26
	checkTable(t, "corrected", p, []api.Sheet{good(), version(sheet(1, 5, "ann", "bob", 26, 0), 1), good()}, 0, 9, first, second)
	checkTable(t, "corrected to another season", p, []api.Sheet{good(), version(sheet(1, 50, "ann", "bob", 26, 0), 1)}, 0, 9, none...)
	checkTable(t, "void", p, []api.Sheet{void(good(), 1), good()}, 0, 9, none...)
}

// P10.6: the rules by which players are placed, one by one.
func TestTableRules(t *testing.T) {
	var n int64
	beats := func(winner, loser string, won, lost int) api.Sheet {
		n++
		return sheet(n, n, winner, loser, won, lost)
	}
	p := []api.Player{player("d", 0, 0), player("c", 0, 0), player("b", 0, 0), player("a", 0, 0)}
	l := []api.Sheet{beats("d", "a", 1, 0), beats("d", "b", 1, 0), beats("a", "b", 26, 0)}
	checkTable(t, "won", p, l, 0, 100, standing("d", 2, 0, 0, 2, 1), standing("a", 1, 1, 0, 25, 0), standing("c", 0, 0, 0, 0, 0), standing("b", 0, 2, 0, -27, 0))
	l = []api.Sheet{beats("d", "a", 1, 0), beats("a", "b", 26, 0)}
	checkTable(t, "among", p, l, 0, 100, standing("d", 1, 0, 1, 1, 1), standing("a", 1, 1, 0, 25, 0), standing("c", 0, 0, 0, 0, 0), standing("b", 0, 1, 0, -26, 0))
	l = []api.Sheet{beats("d", "b", 5, 3), beats("a", "c", 4, 3)}
	checkTable(t, "net", p, l, 0, 100, standing("d", 1, 0, 0, 2, 0), standing("a", 1, 0, 0, 1, 0), standing("c", 0, 1, 0, -1, 0), standing("b", 0, 1, 0, -2, 0))
	l = []api.Sheet{beats("d", "c", 5, 3), beats("d", "b", 5, 3), beats("a", "b", 5, 3), beats("a", "b", 5, 3), beats("c", "b", 0, 0)}
	checkTable(t, "worth", p, l, 0, 100, standing("d", 2, 0, 0, 4, 1), standing("a", 2, 0, 0, 4, 0), standing("c", 1, 1, 0, -2, 0), standing("b", 0, 4, 0, -6, 0))
	l = []api.Sheet{beats("d", "b", 5, 3), beats("a", "c", 5, 3)}
	checkTable(t, "name", p, l, 0, 100, standing("a", 1, 0, 0, 2, 0), standing("d", 1, 0, 0, 2, 0), standing("b", 0, 1, 0, -2, 0), standing("c", 0, 1, 0, -2, 0))
	// Games against the same player count each time; those of others make no difference.
	l = []api.Sheet{beats("a", "b", 2, 1), beats("b", "a", 2, 1), beats("b", "a", 3, 1), beats("a", "b", 5, 1), beats("c", "eve", 26, 0), beats("eve", "d", 26, 0), beats("fox", "eve", 9, 0)}
	checkTable(t, "again and again", p, l, 0, 100, standing("a", 2, 2, 2, 2, 4), standing("b", 2, 2, 2, -2, 4), standing("c", 0, 0, 0, 0, 0), standing("d", 0, 0, 0, 0, 0))
}

// P10.6: names are compared byte by byte, and one that another one begins with comes first.
func TestTableNames(t *testing.T) {
	var p []api.Player
	for _, name := range []string{"b", "ab", "a0", "a", "aa", "9", "10", "1", "z", "0"} {
		p = append(p, player(name, 0, 0))
	}
	if names := namesOf(mustTable(t, p, ring(), 0, 9)); !slices.Equal(names, []string{"0", "1", "10", "9", "a", "a0", "aa", "ab", "b", "z"}) {
		t.Errorf("Table: %v", names)
	}
}

// P10.6: tables are those of the second version.
func TestTableOfAll(t *testing.T) {
	r := dice(106)
	games := 0
	for range 1500 {
		p, l := anyPlayers(r, len(pool())), anyLedger(r, 80)
		from := r.Int63n(6)
		to := from + r.Int63n(30)
		want := modelTable(p, l, from, to)
		checkTable(t, "any", p, l, from, to, want...)
		for _, s := range want {
			games += s.Won
		}
	}
	if games < 3000 {
		t.Errorf("only %d games were in a season", games)
	}
}

// P10.6: from and to that are no season.
func TestTableErrors(t *testing.T) {
	for _, x := range [][2]int64{{-1, 0}, {-1, 5}, {-1, -1}, {1, 0}, {6, 5}, {0, api.MaxNumbers + 1}, {api.MaxNumbers + 1, api.MaxNumbers + 1}, {0, -1}, {math.MinInt64, math.MaxInt64}, {0, math.MaxInt64}, {math.MinInt64, 0}, {0, math.MinInt64}, {math.MaxInt64, math.MaxInt64}} {
		for _, p := range [][]api.Player{nil, three()} {
			if table, e := index.Table(p, ring(), x[0], x[1]); len(table) > 0 || e != api.ErrRange {
				t.Errorf("Table from %d to %d: %v, error %d, want ErrRange", x[0], x[1], table, e)
			}
			for _, names := range [][]string{nil, {"ann", "bob", "cat"}, {"ann", "ann", "zoe"}} {
				checkNames(t, p, ring(), x[0], x[1], names, 0, api.PlacedNone, api.ErrRange)
			}
		}
	}
}

// checkBefore fails if one is not placed before the other one by this rule.
func checkBefore(t *testing.T, a, b api.Standing, rule int) {
	t.Helper()
	if before, n := index.Before(a, b); !before || n != rule {
		t.Errorf("Before(%v, %v): %v, %d, want %d", a, b, before, n, rule)
	}
	if before, n := index.Before(b, a); before || n != rule {
		t.Errorf("Before(%v, %v): %v, %d, want false and %d", b, a, before, n, rule)
	}
}

// P10.6: the first rule in which they differ decides, whatever the numbers are.
func TestBefore(t *testing.T) {
	checkBefore(t, standing("z", 3, 9, 0, -9, 0), standing("a", 2, 0, 5, 50, 9), api.PlacedWon)
	checkBefore(t, standing("z", 3, 9, 2, -9, 0), standing("a", 3, 0, 1, 50, 9), api.PlacedAmong)
	checkBefore(t, standing("z", 3, 9, 2, -9, 0), standing("a", 3, 0, 2, -10, 9), api.PlacedNet)
	checkBefore(t, standing("z", 3, 9, 2, -9, 4), standing("a", 3, 0, 2, -9, 3), api.PlacedWorth)
	checkBefore(t, standing("a", 3, 9, 2, -9, 4), standing("z", 3, 0, 2, -9, 4), api.PlacedName)
	checkBefore(t, standing("a", 0, 0, 0, 0, 0), standing("aa", 0, 0, 0, 0, 0), api.PlacedName)
	checkBefore(t, standing("a9", 0, 0, 0, 0, 0), standing("aa", 0, 0, 0, 0, 0), api.PlacedName)
	checkBefore(t, api.Standing{}, standing("0", 0, 0, 0, 0, 0), api.PlacedName)
	checkBefore(t, standing("Z", 0, 0, 0, 0, 0), standing("a", 0, 0, 0, 0, 0), api.PlacedName)
	checkBefore(t, standing("z", 0, 0, 0, 0, 0), standing("é", 0, 0, 0, 0, 0), api.PlacedName)
	checkBefore(t, standing("é", 0, 0, 0, 0, 0), standing("\xff", 0, 0, 0, 0, 0), api.PlacedName)
	least, most := math.MinInt, math.MaxInt
	checkBefore(t, standing("", most, 0, 0, 0, 0), standing("", least, 0, 0, 0, 0), api.PlacedWon)
	checkBefore(t, standing("", 0, 0, most, 0, 0), standing("", 0, 0, least, 0, 0), api.PlacedAmong)
	checkBefore(t, standing("", 0, 0, 0, most, 0), standing("", 0, 0, 0, least, 0), api.PlacedNet)
	checkBefore(t, standing("", 0, 0, 0, 0, most), standing("", 0, 0, 0, 0, least), api.PlacedWorth)
	for _, s := range []api.Standing{{}, standing("a", 1, 2, 3, 4, 5), standing("\xff", least, most, least, most, least)} {
		o := s
		o.Lost = 77
		for _, x := range []api.Standing{s, o} {
			if before, n := index.Before(s, x); before || n != api.PlacedNone {
				t.Errorf("Before(%v, %v): %v, %d, want false and none", s, x, before, n)
			}
		}
	}
}

// P10.7: the first name that is not placed before the next one, and the rule.
func TestCheckTable(t *testing.T) {
	check := func(l []api.Sheet, names []string, i, rule int) {
		t.Helper()
		want := api.ErrRule
		if rule == api.PlacedNone {
			want = api.OK
		}
		checkNames(t, three(), l, 0, 100, names, i, rule, want)
	}
	check(ring(), []string{"bob", "ann", "cat"}, 0, api.PlacedNone)
	check(ring(), []string{"ann", "bob", "cat"}, 0, api.PlacedNet)
	check(ring(), []string{"bob", "cat", "ann"}, 1, api.PlacedNet)
	check(ring(), []string{"cat", "ann", "bob"}, 0, api.PlacedNet)
	check(ring(), []string{"ann", "cat", "bob"}, 1, api.PlacedNet)
	check(ring(), []string{"cat", "bob", "ann"}, 0, api.PlacedNet)
	check(nil, []string{"ann", "bob", "cat"}, 0, api.PlacedNone)
	check(nil, []string{"ann", "cat", "bob"}, 1, api.PlacedName)
	check(nil, []string{"cat", "ann", "bob"}, 0, api.PlacedName)
	check(ring()[:1], []string{"cat", "ann", "bob"}, 0, api.PlacedWon)
	check(ring()[:2], []string{"ann", "bob", "cat"}, 0, api.PlacedNone)
	check(ring()[:2], []string{"bob", "ann", "cat"}, 0, api.PlacedAmong)
	one, two := sheet(1, 1, "ann", "bob", 5, 5), sheet(2, 2, "bob", "cat", 5, 5)
	three, four := sheet(3, 3, "cat", "ann", 5, 5), sheet(4, 4, "cat", "ann", 5, 5)
	check([]api.Sheet{one, two, three}, []string{"ann", "cat", "bob"}, 1, api.PlacedName)
	check([]api.Sheet{one, two, three, four}, []string{"cat", "bob", "ann"}, 1, api.PlacedAmong)
	checkNames(t, nil, ring(), 0, 100, nil, 0, api.PlacedNone, api.OK)
	checkNames(t, nil, ring(), 0, 100, []string{}, 0, api.PlacedNone, api.OK)
	p := []api.Player{player("d", 0, 0), player("c", 0, 0), player("b", 0, 0), player("a", 0, 0)}
	l := []api.Sheet{sheet(1, 1, "d", "c", 5, 3), sheet(2, 2, "d", "b", 5, 3), sheet(3, 3, "a", "b", 5, 3), sheet(4, 4, "a", "b", 5, 3), sheet(5, 5, "c", "b", 0, 0)}
	checkNames(t, p, l, 0, 100, []string{"a", "d", "c", "b"}, 0, api.PlacedWorth, api.ErrRule)
	checkNames(t, p, l, 0, 100, []string{"d", "a", "b", "c"}, 2, api.PlacedWon, api.ErrRule)
}

// P10.7: any names, in the second version.
func TestCheckTableOfAll(t *testing.T) {
	r := dice(107)
	var rules [api.PlacedName + 1]int
	for k := range 4000 {
		p, l := anyPlayers(r, 6), anyLedger(r, 40)
		if k%2 == 0 { // all of those who play
			p = nil
			for _, name := range shuffled(r, pool()[:4]) {
				p = append(p, player(name, 0, 0))
			}
		}
		all := modelStandings(p, l, 0, 100)
		if r.Intn(2) == 0 { // only two are exchanged
			all = modelTable(p, l, 0, 100)
			if len(all) > 1 {
				i := r.Intn(len(all) - 1)
				all[i], all[i+1] = all[i+1], all[i]
			}
		}
		i, rule, want := 0, api.PlacedNone, api.OK
		for k := len(all) - 2; k >= 0; k-- {
			if before, n := modelBefore(all[k], all[k+1]); !before {
				i, rule, want = k, n, api.ErrRule
			}
		}
		rules[rule]++
		checkNames(t, p, l, 0, 100, namesOf(all), i, rule, want)
	}
	for rule, n := range rules {
		if n < 5 {
			t.Errorf("the rule %d decided %d times", rule, n)
		}
	}
}

// P10.7: names that are not those of the players, in the order of the errors.
func TestCheckTableErrors(t *testing.T) {
	for _, names := range [][]string{nil, {"bob", "ann"}, {"bob", "ann", "cat", "zoe"}, {"bob", "ann", "cat", "cat"}, {"zoe"}, {"ann", "ann"}, make([]string, 100000)} {
		checkNames(t, three(), ring(), 0, 100, names, 0, api.PlacedNone, api.ErrEqual)
	}
	for _, names := range [][]string{{"bob", "ann", "zoe"}, {"", "ann", "bob"}, {"cat", "Ann", "bob"}, {"cat", "an", "bob"}, {"zoe", "zoe", "zoe"}, {"bob", "bob", "zoe"}, {"zoe", "bob", "bob"}} {
		checkNames(t, three(), ring(), 0, 100, names, 0, api.PlacedNone, api.ErrNone)
	}
	for _, names := range [][]string{{"bob", "ann", "bob"}, {"bob", "bob", "ann"}, {"cat", "bob", "bob"}, {"cat", "cat", "cat"}} {
		checkNames(t, three(), ring(), 0, 100, names, 0, api.PlacedNone, api.ErrHave)
	}
	checkNames(t, nil, ring(), 0, 100, []string{"ann"}, 0, api.PlacedNone, api.ErrEqual)
}
