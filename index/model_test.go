package index_test

import (
	"strconv"
	"strings"

	"roquet/api"
)

// The second version of the layer follows the definitions sentence by sentence.

// modelBooks returns the books: of each number the sheet with the greatest version, if it is not void; the earliest one first.
func modelBooks(l []api.Sheet) []api.Sheet {
	var books []api.Sheet
	for i, s := range l {
		counts := !s.Void
		for k, other := range l {
			if other.Number == s.Number && (other.Version > s.Version || other == s && k < i) {
				counts = false
			}
		}
		if counts {
			books = append(books, s)
		}
	}
	var inOrder []api.Sheet
	for len(books) > 0 {
		first := 0
		for i, s := range books {
			f := books[first]
			if s.At < f.At || s.At == f.At && s.Number < f.Number {
				first = i
			}
		}
		inOrder = append(inOrder, books[first])
		books = append(books[:first:first], books[first+1:]...)
	}
	return inOrder
}

// modelGain returns the gain of a winner.
func modelGain(a, b int64, level bool) int64 {
	if !level {
		return 10
	}
	t := strings.Fields("10 9 8 7 6 6 5 5 4 4 3 3 3 2 2 2 1 1 1 1")
	at := func(d int64) int64 {
		k := int64(0)
		for k < 19 && 100*(k+1) <= d {
			k++
		}
		n, err := strconv.ParseInt(t[k], 10, 64)
		if err != nil {
			panic(err)
		}
		return n
	}
	if d := a - b; d >= 0 {
		return at(d)
	}
	return 20 - at(b-a)
}

// modelTrigger returns the trigger of a grade, whatever it is.
func modelTrigger(grade int) int64 {
	if g := int64(grade); g > 0 {
		return 2000 - 50*g
	}
	return 2000 - 40*int64(grade)
}

// modelCount returns both players after a game.
func modelCount(w, l api.Player, level bool) (api.Player, api.Player) {
	n := modelGain(w.Index, l.Index, level)
	w.Index += n
	l.Index -= n
	for _, p := range []*api.Player{&w, &l} {
		if p.Index > 10000 {
			p.Index = 10000
		}
		if p.Index < -10000 {
			p.Index = -10000
		}
		for p.Grade > -12 && p.Index >= modelTrigger(p.Grade-1) {
			p.Grade--
		}
		for p.Grade < 48 && p.Index <= modelTrigger(p.Grade+1) {
			p.Grade++
		}
	}
	return w, l
}

// at returns where a player stands in a list, or -1.
func at(p []api.Player, name string) int {
	for i, x := range p {
		if x.Name == name {
			return i
		}
	}
	return -1
}

// modelSettle returns all players after all games, and all their indexes.
func modelSettle(p []api.Player, l []api.Sheet) ([]api.Player, [][]int64) {
	after := append([]api.Player{}, p...)
	histories := make([][]int64, len(p))
	for i, x := range p {
		histories[i] = []int64{x.Index}
	}
	for _, s := range modelBooks(l) {
		w, o := at(p, s.Winner), at(p, s.Loser)
		if w < 0 || o < 0 {
			continue
		}
		after[w], after[o] = modelCount(after[w], after[o], s.Level)
		histories[w] = append(histories[w], after[w].Index)
		histories[o] = append(histories[o], after[o].Index)
	}
	return after, histories
}

// modelStandings returns how players stand after a season, in their order.
func modelStandings(p []api.Player, l []api.Sheet, from, to int64) []api.Standing {
	var games []api.Sheet
	for _, s := range modelBooks(l) {
		if s.At >= from && s.At < to && at(p, s.Winner) >= 0 && at(p, s.Loser) >= 0 {
			games = append(games, s)
		}
	}
	wins := func(name string) (n int) {
		for _, s := range games {
			if s.Winner == name {
				n++
			}
		}
		return n
	}
	var all []api.Standing
	for _, x := range p {
		st := api.Standing{Name: x.Name}
		for _, s := range games {
			switch x.Name {
			case s.Winner:
				st.Won++
				st.Net += s.Points[0]
				st.Net -= s.Points[1]
				st.Worth += wins(s.Loser)
				if wins(s.Loser) == wins(x.Name) {
					st.Among++
				}
			case s.Loser:
				st.Lost++
				st.Net += s.Points[1]
				st.Net -= s.Points[0]
			}
		}
		all = append(all, st)
	}
	return all
}

// modelBefore reports whether a is placed before b, and by which rule.
func modelBefore(a, b api.Standing) (bool, int) {
	if a.Won != b.Won {
		return a.Won > b.Won, api.PlacedWon
	}
	if a.Among != b.Among {
		return a.Among > b.Among, api.PlacedAmong
	}
	if a.Net != b.Net {
		return a.Net > b.Net, api.PlacedNet
	}
	if a.Worth != b.Worth {
		return a.Worth > b.Worth, api.PlacedWorth
	}
	if a.Name != b.Name {
		return a.Name < b.Name, api.PlacedName
	}
	return false, api.PlacedNone
}

// modelTable returns a table: the place of a player is how many are placed before.
func modelTable(p []api.Player, l []api.Sheet, from, to int64) []api.Standing {
	all := modelStandings(p, l, from, to)
	table := make([]api.Standing, len(all))
	for _, s := range all {
		place := 0
		for _, other := range all {
			if before, _ := modelBefore(other, s); before {
				place++
			}
		}
		table[place] = s
	}
	return table
}
