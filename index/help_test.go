package index_test

import (
	"fmt"
	"math/rand"
	"slices"
	"strings"
	"testing"

	"roquet/api"
	"roquet/index"
)

// dice returns a source of numbers that are the same at each run.
func dice(seed int64) *rand.Rand { return rand.New(rand.NewSource(seed)) }

// from returns a number from a to b.
func from(r *rand.Rand, a, b int64) int64 { return a + r.Int63n(b-a+1) }

// player returns a player.
func player(name string, index int64, grade int) api.Player {
	return api.Player{Name: name, Index: index, Grade: grade}
}

// The players of the chapter's examples.
func ann() api.Player { return player("ann", 2000, 0) }
func bob() api.Player { return player("bob", 1500, 10) }
func cat() api.Player { return player("cat", 1000, 20) }

// three are the players of the examples.
func three() []api.Player { return []api.Player{ann(), bob(), cat()} }

// sheet returns the sheet of a game at level.
func sheet(number, at int64, winner, loser string, won, lost int) api.Sheet {
	return api.Sheet{Number: number, At: at, Winner: winner, Loser: loser, Level: true, Points: [2]int{won, lost}}
}

// with returns a sheet that was changed.
func with(s api.Sheet, change func(s *api.Sheet)) api.Sheet {
	change(&s)
	return s
}

// version returns a sheet with another version.
func version(s api.Sheet, n int) api.Sheet {
	return with(s, func(s *api.Sheet) { s.Version = n })
}

// void returns a sheet that is void, with another version.
func void(s api.Sheet, n int) api.Sheet {
	return with(s, func(s *api.Sheet) { s.Version, s.Void = n, true })
}

// bisques returns the sheet of a game with bisques.
func bisques(s api.Sheet) api.Sheet {
	return with(s, func(s *api.Sheet) { s.Level = false })
}

// good is a valid sheet.
func good() api.Sheet { return sheet(1, 5, "ann", "bob", 26, 20) }

// ring is the ledger of the examples: each of three has won a game.
func ring() []api.Sheet {
	return []api.Sheet{good(), sheet(2, 6, "bob", "cat", 26, 3), sheet(3, 7, "cat", "ann", 26, 25)}
}

// sheets returns so many sheets of different numbers.
func sheets(n int) []api.Sheet {
	l := make([]api.Sheet, n)
	for i := range l {
		l[i] = with(good(), func(s *api.Sheet) { s.Number = int64(i) })
	}
	return l
}

// players returns so many players of different names.
func players(n int) []api.Player {
	l := make([]api.Player, n)
	for i := range l {
		l[i] = player("p"+strings.Repeat("x", i%20/2)+string(rune('a'+i%26)), int64(2000-70*i), i-12)
	}
	return l
}

// namesOf returns the names of standings.
func namesOf(l []api.Standing) []string {
	var names []string
	for _, s := range l {
		names = append(names, s.Name)
	}
	return names
}

// shuffled returns a list in another order.
func shuffled[T any](r *rand.Rand, l []T) []T {
	l = slices.Clone(l)
	r.Shuffle(len(l), func(i, k int) { l[i], l[k] = l[k], l[i] })
	return l
}

// brief returns a list as a text; only the beginning of one that is long.
func brief[T any](l []T) string {
	if len(l) > 12 {
		return fmt.Sprintf("%v and %d more", l[:12], len(l)-12)
	}
	return fmt.Sprint(l)
}

// pool are names of players, and some that begin like others, or are as long as may be.
func pool() []string {
	return []string{"ann", "bob", "cat", "a", "an", "anna", "0", "9z", "zz", strings.Repeat("z", api.MaxName), "dan", "eve"}
}

// anyPlayers returns at most so many players.
func anyPlayers(r *rand.Rand, most int) []api.Player {
	var l []api.Player
	for _, name := range shuffled(r, pool())[:r.Intn(most+1)] {
		l = append(l, anyPlayer(r, name))
	}
	return l
}

// anyPlayer returns a player, often one whose grade is about that of the index.
func anyPlayer(r *rand.Rand, name string) api.Player {
	grade := int(from(r, api.MinGrade, api.MaxGrade))
	switch r.Intn(6) {
	case 0:
		return player(name, from(r, -api.MaxIndex, api.MaxIndex), grade)
	case 1:
		return player(name, from(r, api.MaxIndex-15, api.MaxIndex), grade)
	case 2:
		return player(name, from(r, -api.MaxIndex, 15-api.MaxIndex), grade)
	}
	return player(name, modelTrigger(grade)+from(r, -60, 60), grade)
}

// anyLedger returns a sound ledger of at most so many sheets; some of them come twice, some are corrected, and some are void.
func anyLedger(r *rand.Rand, length int) []api.Sheet {
	names := pool()[:2+r.Intn(len(pool())-1)]
	numbers, times, most := from(r, 1, 50), from(r, 1, 20), r.Intn(api.MaxScore+1)
	if r.Intn(2) == 0 {
		most = r.Intn(2) // so that many have the same Net
	}
	var l []api.Sheet
	for range r.Intn(length + 1) {
		s := anySheet(r, names, numbers, times, most)
		for _, other := range l {
			if other.Number == s.Number && other.Version == s.Version {
				s = other
			}
		}
		l = append(l, s)
	}
	return l
}

// anySheet returns a valid sheet with at most so many points.
func anySheet(r *rand.Rand, names []string, numbers, times int64, most int) api.Sheet {
	two := r.Perm(len(names))
	won := r.Intn(most + 1)
	return api.Sheet{
		Number: r.Int63n(numbers), Version: r.Intn(4), At: r.Int63n(times), Void: r.Intn(6) == 0,
		Winner: names[two[0]], Loser: names[two[1]], Level: r.Intn(3) > 0, Points: [2]int{won, r.Intn(won + 1)},
	}
}

// mustBooks returns the books of a ledger, and fails if there is an error.
func mustBooks(t *testing.T, l []api.Sheet) []api.Sheet {
	t.Helper()
	b, e := index.Books(l)
	if e != api.OK {
		t.Fatalf("Books(%s): error %d", brief(l), e)
	}
	return b
}

// mustMerge merges two ledgers, and fails if there is an error.
func mustMerge(t *testing.T, a, b []api.Sheet) []api.Sheet {
	t.Helper()
	l, e := index.Merge(a, b)
	if e != api.OK {
		t.Fatalf("Merge(%s, %s): error %d", brief(a), brief(b), e)
	}
	return l
}

// mustCount counts a game, and fails if there is an error.
func mustCount(t *testing.T, w, l api.Player, level bool) (api.Player, api.Player) {
	t.Helper()
	v, m, e := index.Count(w, l, level)
	if e != api.OK {
		t.Fatalf("Count(%v, %v, %v): error %d", w, l, level, e)
	}
	return v, m
}

// mustSettle settles a ledger, and fails if there is an error.
func mustSettle(t *testing.T, p []api.Player, l []api.Sheet) []api.Player {
	t.Helper()
	q, e := index.Settle(p, l)
	if e != api.OK {
		t.Fatalf("Settle(%v, %s): error %d", p, brief(l), e)
	}
	return q
}

// mustHistory returns the indexes of a player, and fails if there is an error.
func mustHistory(t *testing.T, p []api.Player, l []api.Sheet, name string) []int64 {
	t.Helper()
	h, e := index.History(p, l, name)
	if e != api.OK {
		t.Fatalf("History(%v, %s, %s): error %d", p, brief(l), name, e)
	}
	return h
}

// mustTable returns a table, and fails if there is an error.
func mustTable(t *testing.T, p []api.Player, l []api.Sheet, from, to int64) []api.Standing {
	t.Helper()
	table, e := index.Table(p, l, from, to)
	if e != api.OK {
		t.Fatalf("Table(%v, %s, %d, %d): error %d", p, brief(l), from, to, e)
	}
	return table
}
