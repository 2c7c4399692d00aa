package event

import (
	"cmp"
	"slices"

	"roquet/api"
)

// result is what came of a game of a block.
type result struct {
	winner, loser, plus int
}

// results returns the results of all games of a block that have a sheet.
func results(n int, l []api.Score) (all []result) {
	count := counting(l)
	for number, pair := range games(n) {
		if s, ok := count[number]; ok {
			all = append(all, result{pair[s.Winner], pair[1-s.Winner], s.Plus})
		}
	}
	return all
}

// Table returns the table of a block.
func Table(n int, l []api.Score) ([]api.Row, api.Errno) {
	if e := firstError(checkBlock(n), checkSheets(l)); e != api.OK {
		return nil, e
	}
	return rows(n, results(n, l)), api.OK
}

// rows returns the rows of n players after these games.
func rows(n int, all []result) []api.Row {
	table := make([]api.Row, n)
	for i := range table {
		table[i].Player = i
	}
	for _, r := range all {
		w, l := &table[r.winner], &table[r.loser]
		w.Games++
		l.Games++
		w.Wins++
		w.Net += r.plus
		l.Net -= r.plus
	}
	return table
}

// standing is a row with the wins in the games among all who have as many Wins.
type standing struct {
	api.Row
	among int
}

// rule is a comparison by which rows are put in order: it is below 0 if the first one of two is placed before the other one.
type rule struct {
	compare func(a, b standing) int
}

// rules returns the rules, in the order in which they are asked.
func rules() []rule {
	return []rule{
		{func(a, b standing) int { return cmp.Compare(b.Wins, a.Wins) }},
		{func(a, b standing) int { return cmp.Compare(b.among, a.among) }},
		{func(a, b standing) int { return cmp.Compare(b.Net, a.Net) }},
		{func(a, b standing) int { return cmp.Compare(a.Player, b.Player) }},
	}
}

// Places returns the places of a block.
func Places(n int, l []api.Score) ([]int, api.Errno) {
	if e := firstError(checkBlock(n), checkSheets(l)); e != api.OK {
		return nil, e
	}
	placed := standings(n, results(n, l))
	slices.SortFunc(placed, byRules)
	players := make([]int, n)
	for place, s := range placed {
		players[place] = s.Player
	}
	return players, api.OK
}

// standings returns how n players stand after these games, by their numbers.
func standings(n int, all []result) []standing {
	l := make([]standing, n)
	for i, row := range rows(n, all) {
		l[i].Row = row
	}
	for _, r := range all {
		if l[r.winner].Wins == l[r.loser].Wins {
			l[r.winner].among++
		}
	}
	return l
}

// byRules compares two rows by the first rule by which they differ.
func byRules(a, b standing) int {
	for _, r := range rules() {
		if c := r.compare(a, b); c != 0 {
			return c
		}
	}
	return 0
}
