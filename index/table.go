package index

import (
	"cmp"

	"roquet/api"
)

// rule is a rule by which one player may be placed before another one. Its comparison is -1 if the first one is, 1 if the other one is, and 0 if the next rule is to be asked.
type rule struct {
	number  int
	compare func(a, b api.Standing) int
}

// rules returns the rules, in the order in which they are asked.
func rules() []rule {
	return []rule{
		{api.PlacedWon, func(a, b api.Standing) int { return cmp.Compare(b.Won, a.Won) }},
		{api.PlacedAmong, func(a, b api.Standing) int { return cmp.Compare(b.Among, a.Among) }},
		{api.PlacedNet, func(a, b api.Standing) int { return cmp.Compare(b.Net, a.Net) }},
		{api.PlacedWorth, func(a, b api.Standing) int { return cmp.Compare(b.Worth, a.Worth) }},
		{api.PlacedName, func(a, b api.Standing) int { return cmp.Compare(a.Name, b.Name) }},
	}
}

// Table returns the table of a season.
func Table(p []api.Player, l []api.Sheet, from, to int64) ([]api.Standing, api.Errno) {
	if e := checkAll(p, l); e != api.OK {
		return nil, e
	}
	if !between(from, 0, to) || to > api.MaxNumbers {
		return nil, api.ErrRange
	}
	table := standings(p, season(matches(p, l), from, to))
	putInOrder(table, isBefore)
	return table, api.OK
}

// season returns the games from a time up to another one.
func season(all []match, from, to int64) (games []match) {
	for _, m := range all {
		if from <= m.sheet.At && m.sheet.At < to {
			games = append(games, m)
		}
	}
	return games
}

// standings returns how players stand after games, in the order of the players.
func standings(p []api.Player, games []match) []api.Standing {
	all := make([]api.Standing, len(p))
	for i, x := range p {
		all[i].Name = x.Name
	}
	for _, m := range games {
		w, l := &all[m.winner], &all[m.loser]
		w.Won++
		l.Lost++
		net := m.sheet.Points[0] - m.sheet.Points[1]
		w.Net += net
		l.Net -= net
	}
	for _, m := range games { // now it is known how many games each player has won
		w, l := &all[m.winner], all[m.loser]
		w.Worth += l.Won
		if w.Won == l.Won {
			w.Among++
		}
	}
	return all
}

// Before reports whether a player is placed before another one, and by which rule.
func Before(a, b api.Standing) (bool, int) {
	before, number := false, api.PlacedNone
ask:
	for _, r := range rules() {
		switch r.compare(a, b) {
		case -1:
			before, number = true, r.number
			break ask
		case 1:
			number = r.number
			break ask
		}
	}
	return before, number
}

// isBefore reports whether a player is placed before another one.
func isBefore(a, b api.Standing) bool {
	before, _ := Before(a, b)
	return before
}

// CheckTable reports whether names are in the order of a table.
func CheckTable(p []api.Player, l []api.Sheet, from, to int64, names []string) (int, int, api.Errno) {
	table, e := Table(p, l, from, to)
	if e == api.OK {
		e = checkNames(p, names)
	}
	if e != api.OK {
		return 0, api.PlacedNone, e
	}
	of := map[string]api.Standing{}
	for _, s := range table {
		of[s.Name] = s
	}
	for i := 1; i < len(names); i++ {
		if before, number := Before(of[names[i]], of[names[i-1]]); before {
			return i - 1, number, api.ErrRule
		}
	}
	return 0, api.PlacedNone, api.OK
}

// checkNames reports whether names are those of all players, in any order.
func checkNames(p []api.Player, names []string) api.Errno {
	if len(names) != len(p) {
		return api.ErrEqual
	}
	places, named := placesOf(p), map[string]bool{}
	for _, name := range names {
		if _, ok := places[name]; !ok {
			return api.ErrNone
		}
		named[name] = true
	}
	if len(named) < len(names) {
		return api.ErrHave
	}
	return api.OK
}
