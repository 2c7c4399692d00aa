package event_test

import "roquet/api"

// The second version of the layer follows the definitions sentence by sentence.

// modelOrder returns the seed order of a size.
func modelOrder(size int) []int {
	order := []int{0}
	for n := 1; n < size; n *= 2 {
		double := make([]int, 2*n)
		for i, x := range order {
			double[2*i] = x
			double[2*i+1] = 2*n - 1 - x
		}
		order = double
	}
	return order
}

// modelDraw returns a draw.
func modelDraw(n, seeds int, lots []int) []int {
	const none = -1
	rank := make([]int, n)
	for p := range rank {
		rank[p] = none
		if p < seeds {
			rank[p] = p
		}
	}
	for i, lot := range lots {
		var without []int
		for p := range rank {
			if rank[p] == none {
				without = append(without, p)
			}
		}
		rank[without[lot%len(without)]] = seeds + i
	}
	size := 1
	for size < n {
		size *= 2
	}
	slots := make([]int, size)
	for i, x := range modelOrder(size) {
		slots[i] = bye
		for p := range rank {
			if rank[p] == x {
				slots[i] = p
			}
		}
	}
	return slots
}

// modelCounts returns the sheet that counts for a match, and whether there is one.
func modelCounts(l []api.Score, match int) (api.Score, bool) {
	var best api.Score
	found := false
	for _, s := range l {
		if s.Match != match {
			continue
		}
		if !found || s.Version > best.Version ||
			s.Version == best.Version && s.Winner > best.Winner ||
			s.Version == best.Version && s.Winner == best.Winner && s.Plus > best.Plus {
			best, found = s, true
		}
	}
	return best, found
}

// modelSides returns both sides of all matches, round by round, and then the winner of the last one.
func modelSides(slots []int, l []api.Score) ([][2]int, int) {
	var all [][2]int
	in := slots
	for len(in) > 1 {
		var next []int
		for i := 0; i < len(in); i += 2 {
			next = append(next, modelWinner(in[i], in[i+1], l, len(all)))
			all = append(all, [2]int{in[i], in[i+1]})
		}
		in = next
	}
	return all, in[0]
}

// modelWinner returns the winner of a match.
func modelWinner(a, b int, l []api.Score, match int) int {
	if a == bye {
		return b
	}
	if b == bye {
		return a
	}
	s, ok := modelCounts(l, match)
	if a >= 0 && b >= 0 && ok {
		if s.Winner == 0 {
			return a
		}
		return b
	}
	return open
}

// modelMeet returns the first round in which two slots are in the same match.
func modelMeet(slots []int, a, b int) int {
	in := make([]map[int]bool, len(slots))
	for i, p := range slots {
		in[i] = map[int]bool{p: true}
	}
	for round := 0; ; round++ {
		var next []map[int]bool
		for i := 0; i < len(in); i += 2 {
			both := map[int]bool{}
			for p := range in[i] {
				both[p] = true
			}
			for p := range in[i+1] {
				both[p] = true
			}
			if both[a] && both[b] {
				return round
			}
			next = append(next, both)
		}
		in = next
	}
}

// modelRounds returns the rounds of a block.
func modelRounds(n int) [][][2]int {
	m := n
	if n%2 == 1 {
		m = n + 1
	}
	var rounds [][][2]int
	for r := 0; r <= m-2; r++ {
		other := map[int]int{m - 1: r, r: m - 1}
		for k := 1; k <= m/2-1; k++ {
			a, b := (r+k)%(m-1), r-k
			for b < 0 {
				b += m - 1
			}
			other[a], other[b] = b, a
		}
		var games [][2]int
		for a := range n {
			if b := other[a]; a < b && b < n {
				games = append(games, [2]int{a, b})
			}
		}
		rounds = append(rounds, games)
	}
	return rounds
}

// modelPairs returns the games of a block, by their numbers.
func modelPairs(n int) [][2]int {
	var l [][2]int
	for b := range n * n {
		if b/n < b%n {
			l = append(l, [2]int{b / n, b % n})
		}
	}
	return l
}

// modelTable returns the table of a block.
func modelTable(n int, l []api.Score) []api.Row {
	table := make([]api.Row, n)
	for p := range table {
		table[p].Player = p
		for number, pair := range modelPairs(n) {
			s, ok := modelCounts(l, number)
			if !ok || pair[0] != p && pair[1] != p {
				continue
			}
			table[p].Games++
			if pair[s.Winner] == p {
				table[p].Wins++
				table[p].Net += s.Plus
			} else {
				table[p].Net -= s.Plus
			}
		}
	}
	return table
}

// modelPlaces returns the places of a block: that of a player is how many are before.
func modelPlaces(n int, l []api.Score) []int {
	table := modelTable(n, l)
	among := make([]int, n)
	for number, pair := range modelPairs(n) {
		if s, ok := modelCounts(l, number); ok && table[pair[0]].Wins == table[pair[1]].Wins {
			among[pair[s.Winner]]++
		}
	}
	before := func(a, b int) bool {
		if table[a].Wins != table[b].Wins {
			return table[a].Wins > table[b].Wins
		}
		if among[a] != among[b] {
			return among[a] > among[b]
		}
		if table[a].Net != table[b].Net {
			return table[a].Net > table[b].Net
		}
		return a < b
	}
	places := make([]int, n)
	for a := range n {
		place := 0
		for b := range n {
			if before(b, a) {
				place++
			}
		}
		places[place] = a
	}
	return places
}

// modelMinute is a minute of play.
type modelMinute struct {
	time    int64
	session int
}

// modelMinutes returns the minutes of play.
func modelMinutes(s []api.Session) []modelMinute {
	var l []modelMinute
	for i, x := range s {
		for time := x.From; time < x.To; time++ {
			l = append(l, modelMinute{time, i})
		}
	}
	return l
}

// notPlaced is where a fixture begins that is not placed.
const notPlaced = -1

// modelFits reports whether the fixture i fits at the minute p of all minutes of play, with those before it that begin at these minutes.
func modelFits(l []api.Fixture, s []api.Session, all []modelMinute, share, i, p int, begins []int) bool {
	f := l[i]
	if p+f.Minutes > len(all) {
		return false
	}
	if !f.Peg && all[p].session != all[p+f.Minutes-1].session {
		return false
	}
	for q := p; q < p+f.Minutes; q++ {
		games := 0
		for k, g := range l[:i] {
			if begins[k] == notPlaced || q < begins[k] || q >= begins[k]+g.Minutes {
				continue
			}
			games++
			if f.A == g.A || f.A == g.B || f.B == g.A || f.B == g.B {
				return false
			}
		}
		if games >= s[all[q].session].Lawns*share {
			return false
		}
	}
	for _, k := range f.After {
		if begins[k] == notPlaced || begins[k]+l[k].Minutes > p {
			return false
		}
	}
	return true
}

// modelSlate returns the slate, and at which minutes of play the fixtures begin.
func modelSlate(l []api.Fixture, s []api.Session, share int) ([]api.Booking, []int) {
	all := modelMinutes(s)
	var slots []api.Booking
	var begins []int
	for i, f := range l {
		begin, b := notPlaced, never()
		for p := range all {
			if modelFits(l, s, all, share, i, p, begins) {
				begin, b = p, slot(all[p].time, all[p+f.Minutes-1].time+1)
				break
			}
		}
		slots, begins = append(slots, b), append(begins, begin)
	}
	return slots, begins
}
