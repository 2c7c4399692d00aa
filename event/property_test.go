package event_test

import (
	"slices"
	"testing"

	"roquet/api"
	"roquet/event"
)

// P11.10: each player has just one slot, no two Byes meet, and of the first 2^j ranks no two meet before the j-th last round.
func TestDraws(t *testing.T) {
	r := dice(1110)
	for n := 2; n <= api.MaxField; n++ {
		for _, seeds := range []int{0, n, r.Intn(n + 1)} {
			lots := anyLots(r, n-seeds)
			slots := mustDraw(t, n, seeds, lots)
			count := map[int]int{}
			for _, p := range slots {
				count[p]++
			}
			for p := range n {
				if count[p] != 1 {
					t.Errorf("Draw(%d, %d, %v): %v has %d in %d slots", n, seeds, lots, slots, p, count[p])
				}
			}
			if len(slots) >= 2*n || count[bye] != len(slots)-n || event.CheckDraw(slots) != api.OK {
				t.Errorf("Draw(%d, %d, %v): %v", n, seeds, lots, slots)
			}
			checkSeeds(t, slots, seeds)
		}
	}
}

// checkSeeds fails if of the first 2^j of so many seeds two meet before the j-th last round.
func checkSeeds(t *testing.T, slots []int, seeds int) {
	t.Helper()
	rounds := 0
	for 1<<rounds < len(slots) {
		rounds++
	}
	for j := 0; j <= rounds; j++ {
		for a := range min(seeds, 1<<j) {
			for b := range a {
				if n, e := event.Meet(slots, a, b); n < rounds-j || e != api.OK {
					t.Errorf("Meet(%v, %d, %d): %d, error %d, but of %d rounds", slots, a, b, n, e, rounds)
				}
			}
		}
	}
}

// P11.11: Sides, Champion, Table and Places are the same in whatever order the sheets are, and however often one is there.
func TestInWhateverOrder(t *testing.T) {
	r := dice(1111)
	for range 500 {
		slots, n := anySlots(r, 32), from(r, 2, api.MaxBlock)
		l := anySheets(r, 100, 30)
		for _, o := range [][]api.Score{shuffled(r, l), with(l, l...), shuffled(r, with(l, l...)), with(l[len(l)/2:], l...)} {
			sides, champion := modelSides(slots, l)
			checkSides(t, slots, o, sides, champion)
			checkTable(t, n, o, mustTable(t, n, l), mustPlaces(t, n, l)...)
			for match := -1; match <= 30; match++ {
				s, e := event.Counts(l, match)
				if other, error := event.Counts(o, match); other != s || error != e {
					t.Errorf("Counts(%v, %d): %v, error %d, but of %v: %v, error %d", l, match, s, e, o, other, error)
				}
			}
		}
	}
}

// P11.11: an earlier version that comes late changes nothing.
func TestEarlierVersions(t *testing.T) {
	r := dice(11110)
	for range 500 {
		slots, n := anySlots(r, 32), from(r, 2, api.MaxBlock)
		l := anySheets(r, 100, 30)
		late := slices.Clone(l)
		for _, s := range l {
			if s.Version > 0 {
				late = append(late, sheet(s.Match, r.Intn(s.Version), r.Intn(2), from(r, 1, api.MaxPlus)))
			}
		}
		sides, champion := modelSides(slots, l)
		checkSides(t, slots, late, sides, champion)
		checkTable(t, n, late, mustTable(t, n, l), mustPlaces(t, n, l)...)
	}
}

// P11.12: a sheet for a match that had none changes no side that was a player.
func TestForward(t *testing.T) {
	r := dice(1112)
	for range 300 {
		slots := anySlots(r, 32)
		matches := shuffled(r, numbers(len(slots)-1))
		var l []api.Score
		before := mustSides(t, slots, l)
		for _, m := range matches {
			l = append(l, sheet(m, r.Intn(3), r.Intn(2), 5))
			after := mustSides(t, slots, l)
			for i, sides := range before {
				for k, p := range sides {
					if p != open && after[i][k] != p {
						t.Errorf("Sides(%v, %v): the match %d is %v, and was %v", slots, l, i, after[i], sides)
					}
				}
			}
			before = after
		}
		checkWay(t, slots, l)
	}
}

// checkWay fails if the champion of a draw was not in a match of each round, or there is none.
func checkWay(t *testing.T, slots []int, l []api.Score) {
	t.Helper()
	champion, e := event.Champion(slots, l)
	if e != api.OK || champion == bye {
		t.Errorf("Champion(%v, %v): %d, error %d", slots, l, champion, e)
	}
	sides := mustSides(t, slots, l)
	for n := len(slots) / 2; n > 0; n /= 2 {
		in := 0
		for _, x := range sides[:n] {
			if slices.Contains(x[:], champion) {
				in++
			}
		}
		if in != 1 {
			t.Errorf("Sides(%v, %v): the champion %d is in %d of %v", slots, l, champion, in, sides[:n])
		}
		sides = sides[n:]
	}
}

// P11.13: each two players meet just once, and nobody plays twice in a round.
func TestBlocks(t *testing.T) {
	for n := 2; n <= api.MaxBlock; n++ {
		rounds := mustRounds(t, n)
		games := map[int]int{}
		for _, round := range rounds {
			plays := map[int]bool{}
			last := -1
			for _, pair := range round {
				number, e := event.Game(n, pair[0], pair[1])
				if e != api.OK || plays[pair[0]] || plays[pair[1]] || pair[0] >= pair[1] || pair[0] <= last {
					t.Errorf("Rounds(%d): %v, error %d", n, round, e)
				}
				games[number]++
				plays[pair[0]], plays[pair[1]] = true, true
				last = pair[0]
			}
			if len(round) != n/2 {
				t.Errorf("Rounds(%d): %v", n, round)
			}
		}
		for number := range n * (n - 1) / 2 {
			if games[number] != 1 {
				t.Errorf("Rounds(%d): %v has the game %d %d times", n, rounds, number, games[number])
			}
		}
		if len(rounds) != n-1+n%2 {
			t.Errorf("Rounds(%d): %d rounds", n, len(rounds))
		}
	}
}

// P11.14: all Wins together are the games with a sheet, and all Net are 0; places have each player once, and nobody before one with more Wins.
func TestTables(t *testing.T) {
	r := dice(1114)
	for range 1000 {
		n := from(r, 2, api.MaxBlock)
		l := anySheets(r, 200, n*(n-1)/2-1)
		games := map[int]bool{}
		for _, s := range l {
			if s.Match >= 0 {
				games[s.Match] = true
			}
		}
		table, places := mustTable(t, n, l), mustPlaces(t, n, l)
		var sum api.Row
		for i, x := range table {
			sum.Games += x.Games
			sum.Wins += x.Wins
			sum.Net += x.Net
			if x.Player != i {
				t.Errorf("Table(%d, %v): %v", n, l, table)
			}
		}
		if sum.Wins != len(games) || sum.Games != 2*len(games) || sum.Net != 0 {
			t.Errorf("Table(%d, %v): %v, together %v, with %d games", n, l, table, sum, len(games))
		}
		if sorted := shuffled(r, places); !slices.Equal(slices.Sorted(slices.Values(sorted)), numbers(n)) {
			t.Errorf("Places(%d, %v): %v", n, l, places)
		}
		for i := 1; i < n; i++ {
			if table[places[i-1]].Wins < table[places[i]].Wins {
				t.Errorf("Places(%d, %v): %v of %v", n, l, places, table)
			}
		}
	}
}

// slateOf is a slate with the minutes of play at which its fixtures are played.
type slateOf struct {
	fixtures []api.Fixture
	minutes  []modelMinute
	slots    []api.Booking
}

// isAt reports whether a fixture is played at a minute of play.
func (s slateOf) isAt(i int, m modelMinute) bool {
	return s.slots[i].From <= m.time && m.time < s.slots[i].To
}

// begins returns at which minutes of play the fixtures begin.
func (s slateOf) begins() []int {
	var l []int
	for _, b := range s.slots {
		l = append(l, slices.IndexFunc(s.minutes, func(m modelMinute) bool { return m.time == b.From }))
	}
	return l
}

// P11.15: no player plays two games at once, no lawn has more games than share it, and no game is played outside of the sessions.
func TestSlates(t *testing.T) {
	r := dice(1115)
	for range 2000 {
		l, s, share := anyFixtures(r, 12), anySessions(r), from(r, 1, 2)
		all := slateOf{l, modelMinutes(s), mustSlate(t, l, s, share)}
		long := make([]int, len(l))
		for _, m := range all.minutes {
			plays := map[int]bool{}
			games := 0
			for i, f := range l {
				if !all.isAt(i, m) {
					continue
				}
				if plays[f.A] || plays[f.B] {
					t.Errorf("Slate(%v, %v, %d): %v, somebody plays twice at %d", l, s, share, all.slots, m.time)
				}
				plays[f.A], plays[f.B] = true, true
				games++
				long[i]++
			}
			if games > share*s[m.session].Lawns {
				t.Errorf("Slate(%v, %v, %d): %v, %d games at %d", l, s, share, all.slots, games, m.time)
			}
		}
		for i, f := range l {
			if all.slots[i] != never() && long[i] != f.Minutes {
				t.Errorf("Slate(%v, %v, %d): %v, %d is played for %d minutes", l, s, share, all.slots, i, long[i])
			}
		}
		checkFirst(t, all, s, share)
	}
}

// checkFirst fails if a fixture that is placed fits before, or one that is not fits at all.
func checkFirst(t *testing.T, all slateOf, s []api.Session, share int) {
	t.Helper()
	begins := all.begins()
	for i := range all.fixtures {
		for p := range all.minutes {
			fits := modelFits(all.fixtures, s, all.minutes, share, i, p, begins)
			if early := begins[i] == notPlaced || p < begins[i]; fits && early || !fits && p == begins[i] {
				t.Errorf("Slate(%v, %v, %d): %v, but that %d fits at %d is %v", all.fixtures, s, share, all.slots, i, p, fits)
			}
		}
	}
}

// P11.15: a fixture more at the end changes nothing for the others, and with more lawns the first one is not played later.
func TestSlatesOfMore(t *testing.T) {
	r := dice(11150)
	for range 2000 {
		l, s, share := anyFixtures(r, 12), anySessions(r), from(r, 1, 2)
		slots := mustSlate(t, l, s, share)
		for k := range l {
			if b := mustSlate(t, l[:k], s, share); !slices.Equal(b, slots[:k]) {
				t.Errorf("Slate(%v, %v, %d): %v, but of all: %v", l[:k], s, share, b, slots)
			}
		}
		more := slices.Clone(s)
		for i := range more {
			more[i].Lawns += r.Intn(3)
		}
		if b := mustSlate(t, l, more, share); len(l) > 0 && slots[0] != never() && (b[0] == never() || b[0].From > slots[0].From) {
			t.Errorf("Slate(%v, %v, %d): %v, but with the lawns of %v: %v", l, s, share, slots, more, b)
		}
	}
}
