package index

import (
	"slices"

	"roquet/api"
)

// shared is what a winner gains, and what the other one would have gained, together.
const shared = 20

// gains are what the one with the greater index gains at level, by how many hundreds it is greater; the last one is for all that are more.
var gains = [...]int64{10, 9, 8, 7, 6, 6, 5, 5, 4, 4, 3, 3, 3, 2, 2, 2, 1, 1, 1, 1}

// CheckPlayers reports whether players are valid.
func CheckPlayers(p []api.Player) api.Errno {
	if len(p) > api.MaxPlayers {
		return api.ErrMany
	}
	for _, x := range p {
		if !isName(x.Name) || !isIndex(x.Index) || !isGrade(x.Grade) {
			return api.ErrArg
		}
	}
	if len(placesOf(p)) < len(p) {
		return api.ErrHave
	}
	return api.OK
}

// placesOf returns where each player stands in a list, by name.
func placesOf(p []api.Player) map[string]int {
	places := map[string]int{}
	for i, x := range p {
		places[x.Name] = i
	}
	return places
}

// isIndex reports whether n is possible as an index.
func isIndex(n int64) bool {
	return between(n, -api.MaxIndex, api.MaxIndex)
}

// isGrade reports whether n is a grade.
func isGrade(n int) bool {
	return between(n, api.MinGrade, api.MaxGrade)
}

// Gain returns the gain of a winner.
func Gain(a, b int64, level bool) (int64, api.Errno) {
	if !isIndex(a) || !isIndex(b) {
		return 0, api.ErrRange
	}
	return gain(a, b, level), api.OK
}

// gain returns the gain of a winner with the index a against a loser with the index b.
func gain(a, b int64, level bool) int64 {
	if !level {
		return shared / 2
	}
	hundreds := max(a-b, b-a) / 100
	favourite := gains[min(hundreds, int64(len(gains)-1))]
	if a < b {
		return shared - favourite
	}
	return favourite
}

// Trigger returns the trigger of a grade.
func Trigger(grade int) (int64, api.Errno) {
	if !isGrade(grade) {
		return 0, api.ErrRange
	}
	return trigger(grade), api.OK
}

// trigger returns the trigger of a grade.
func trigger(grade int) int64 {
	if grade <= 0 {
		return 2000 - 40*int64(grade)
	}
	return 2000 - 50*int64(grade)
}

// Count returns two players after a game.
func Count(w, l api.Player, level bool) (api.Player, api.Player, api.Errno) {
	if e := CheckPlayers([]api.Player{w, l}); e != api.OK {
		return api.Player{}, api.Player{}, e
	}
	w, l = count(w, l, level)
	return w, l, api.OK
}

// count returns two players after a game.
func count(w, l api.Player, level bool) (api.Player, api.Player) {
	n := gain(w.Index, l.Index, level)
	return moved(w, n), moved(l, -n)
}

// moved returns a player whose index has changed by n, with the grade that follows from it.
func moved(p api.Player, n int64) api.Player {
	p.Index = min(max(p.Index+n, -api.MaxIndex), api.MaxIndex)
	return again(again(p, better), worse)
}

// again changes a player again and again, until it stays as it is.
func again(p api.Player, change func(api.Player) api.Player) api.Player {
	for next := change(p); next != p; next = change(p) {
		p = next
	}
	return p
}

// better returns a player with a grade of 1 less, if the index is enough for it.
func better(p api.Player) api.Player {
	if p.Grade > api.MinGrade && p.Index >= trigger(p.Grade-1) {
		p.Grade--
	}
	return p
}

// worse returns a player with a grade of 1 more, if the index is no more than enough for that.
func worse(p api.Player) api.Player {
	if p.Grade < api.MaxGrade && p.Index <= trigger(p.Grade+1) {
		p.Grade++
	}
	return p
}

// match is a game of the books, with the places of its players in their list.
type match struct {
	sheet         api.Sheet
	winner, loser int
}

// matches returns the games of the books of a sound ledger in which both are players.
func matches(p []api.Player, l []api.Sheet) (all []match) {
	places := placesOf(p)
	for _, s := range booksOf(l) {
		winner, won := places[s.Winner]
		loser, lost := places[s.Loser]
		if won && lost {
			all = append(all, match{s, winner, loser})
		}
	}
	return all
}

// settle counts a game of players.
func settle(p []api.Player, m match) {
	p[m.winner], p[m.loser] = count(p[m.winner], p[m.loser], m.sheet.Level)
}

// Settle returns players after all games of a ledger.
func Settle(p []api.Player, l []api.Sheet) ([]api.Player, api.Errno) {
	if e := checkAll(p, l); e != api.OK {
		return nil, e
	}
	after := slices.Clone(p)
	for _, m := range matches(p, l) {
		settle(after, m)
	}
	return after, api.OK
}

// History returns the indexes of a player.
func History(p []api.Player, l []api.Sheet, name string) ([]int64, api.Errno) {
	if e := checkAll(p, l); e != api.OK {
		return nil, e
	}
	i, ok := placesOf(p)[name]
	if !ok {
		return nil, api.ErrNone
	}
	after := slices.Clone(p)
	indexes := []int64{p[i].Index}
	for _, m := range matches(p, l) {
		settle(after, m)
		if m.winner == i || m.loser == i {
			indexes = append(indexes, after[i].Index)
		}
	}
	return indexes, api.OK
}
