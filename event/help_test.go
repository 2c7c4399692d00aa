package event_test

import (
	"fmt"
	"math/rand"
	"slices"
	"testing"

	"roquet/api"
	"roquet/event"
)

// What a slot or a side may be that is no player.
const (
	bye  = -1
	open = -2
)

// dice returns a source of numbers that are the same at each run.
func dice(seed int64) *rand.Rand { return rand.New(rand.NewSource(seed)) }

// from returns a number from a to b.
func from(r *rand.Rand, a, b int) int { return a + r.Intn(b-a+1) }

// sheet returns a sheet.
func sheet(match, version, winner, plus int) api.Score {
	return api.Score{Match: match, Version: version, Winner: winner, Plus: plus}
}

// with returns a list and some things more, in memory of its own.
func with[T any](l []T, more ...T) []T {
	return append(slices.Clone(l), more...)
}

// shuffled returns a list in another order.
func shuffled[T any](r *rand.Rand, l []T) []T {
	l = slices.Clone(l)
	r.Shuffle(len(l), func(i, k int) { l[i], l[k] = l[k], l[i] })
	return l
}

// brief returns a list as a text; only the beginning of one that is long.
func brief[T any](l []T) string {
	if len(l) > 64 {
		return fmt.Sprintf("%v and %d more", l[:12], len(l)-12)
	}
	return fmt.Sprint(l)
}

// numbers returns the numbers from 0 to n - 1.
func numbers(n int) []int {
	l := make([]int, n)
	for i := range l {
		l[i] = i
	}
	return l
}

// anyLots returns so many lots.
func anyLots(r *rand.Rand, n int) []int {
	l := make([]int, n)
	for i := range l {
		l[i] = r.Intn(100)
		if r.Intn(4) == 0 {
			l[i] = r.Int()
		}
	}
	return l
}

// anySlots returns a draw of at most so many slots; often one that Draw does not make.
func anySlots(r *rand.Rand, most int) []int {
	size := 2
	for size < most && r.Intn(3) > 0 {
		size *= 2
	}
	slots := r.Perm(1001)[:size]
	for m := range size / 2 {
		if r.Intn(3) == 0 {
			slots[2*m+r.Intn(2)] = bye
		}
	}
	return slots
}

// anySheets returns at most so many sheets for about so many matches; often many for a match.
func anySheets(r *rand.Rand, length, matches int) []api.Score {
	versions, most := from(r, 1, 4), from(r, 1, api.MaxPlus)
	var l []api.Score
	for range r.Intn(length + 1) {
		l = append(l, sheet(from(r, -1, matches), r.Intn(versions), r.Intn(2), from(r, 1, most)))
	}
	return l
}

// fixture returns a fixture that may not be pegged down.
func fixture(a, b, minutes int, after ...int) api.Fixture {
	return api.Fixture{A: a, B: b, Minutes: minutes, After: after}
}

// pegged returns a fixture that may be pegged down.
func pegged(f api.Fixture) api.Fixture {
	f.Peg = true
	return f
}

// session returns a session.
func session(from, to int64, lawns int) api.Session {
	return api.Session{From: from, To: to, Lawns: lawns}
}

// slot returns the slot of a fixture.
func slot(from, to int64) api.Booking {
	return api.Booking{From: from, To: to}
}

// never is the slot of a fixture that is not placed.
func never() api.Booking { return slot(-1, -1) }

// anyFixtures returns at most so many fixtures.
func anyFixtures(r *rand.Rand, length int) []api.Fixture {
	players, minutes := from(r, 2, 12), from(r, 1, 40)
	var l []api.Fixture
	for i := range r.Intn(length + 1) {
		two := r.Perm(players)
		f := fixture(two[0], two[1], from(r, 1, minutes))
		f.Peg = r.Intn(2) == 0
		for k := range i {
			if r.Intn(8) == 0 {
				f.After = append(f.After, k)
			}
		}
		l = append(l, f)
	}
	return l
}

// anySessions returns a few sessions, some of them right behind one another.
func anySessions(r *rand.Rand) []api.Session {
	var l []api.Session
	time, long := int64(r.Intn(3)), from(r, 1, 60)
	for range r.Intn(6) {
		time += int64(r.Intn(2) * r.Intn(20))
		to := time + int64(from(r, 1, long))
		l = append(l, session(time, to, r.Intn(4)))
		time = to
	}
	return l
}

// mustOrder returns the seed order, and fails if there is an error.
func mustOrder(t *testing.T, size int) []int {
	t.Helper()
	l, e := event.Order(size)
	if e != api.OK {
		t.Fatalf("Order(%d): error %d", size, e)
	}
	return l
}

// mustDraw returns a draw, and fails if there is an error.
func mustDraw(t *testing.T, n, seeds int, lots []int) []int {
	t.Helper()
	l, e := event.Draw(n, seeds, lots)
	if e != api.OK {
		t.Fatalf("Draw(%d, %d, %v): error %d", n, seeds, lots, e)
	}
	return l
}

// mustSides returns the sides of a draw, and fails if there is an error.
func mustSides(t *testing.T, slots []int, l []api.Score) [][2]int {
	t.Helper()
	sides, e := event.Sides(slots, l)
	if e != api.OK {
		t.Fatalf("Sides(%v, %s): error %d", slots, brief(l), e)
	}
	return sides
}

// mustRounds returns the rounds of a block, and fails if there is an error.
func mustRounds(t *testing.T, n int) [][][2]int {
	t.Helper()
	rounds, e := event.Rounds(n)
	if e != api.OK {
		t.Fatalf("Rounds(%d): error %d", n, e)
	}
	return rounds
}

// mustTable returns the table of a block, and fails if there is an error.
func mustTable(t *testing.T, n int, l []api.Score) []api.Row {
	t.Helper()
	table, e := event.Table(n, l)
	if e != api.OK {
		t.Fatalf("Table(%d, %s): error %d", n, brief(l), e)
	}
	return table
}

// mustPlaces returns the places of a block, and fails if there is an error.
func mustPlaces(t *testing.T, n int, l []api.Score) []int {
	t.Helper()
	places, e := event.Places(n, l)
	if e != api.OK {
		t.Fatalf("Places(%d, %s): error %d", n, brief(l), e)
	}
	return places
}

// mustSubstitute puts in a substitute, and fails if there is an error.
func mustSubstitute(t *testing.T, slots []int, player, by int) []int {
	t.Helper()
	l, e := event.Substitute(slots, player, by)
	if e != api.OK {
		t.Fatalf("Substitute(%v, %d, %d): error %d", slots, player, by, e)
	}
	return l
}

// mustSlate returns a slate, and fails if there is an error.
func mustSlate(t *testing.T, l []api.Fixture, s []api.Session, share int) []api.Booking {
	t.Helper()
	b, e := event.Slate(l, s, share)
	if e != api.OK {
		t.Fatalf("Slate(%v, %v, %d): error %d", l, s, share, e)
	}
	return b
}
