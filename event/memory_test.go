package event_test

import (
	"slices"
	"testing"

	"roquet/api"
	"roquet/event"
)

// twice checks that a result is not changed by a change of an earlier one, and that its elements have no room in common.
func twice[T comparable](t *testing.T, name string, find func() []T) {
	t.Helper()
	l := find()
	want := slices.Clone(l)
	clear(l[:cap(l)])
	if o := find(); !slices.Equal(o, want) {
		t.Errorf("%s: %v, and then %v", name, want, o)
	}
}

// R5: no argument is changed, and each result is new memory.
func TestMemory(t *testing.T) {
	slots, lots := []int{0, bye, 2, 4, 1, bye, 3, bye}, []int{5, 7, 1, 0, 2}
	l := []api.Score{sheet(4, 0, 0, 5), sheet(1, 1, 0, 3), sheet(1, 0, 1, 4), sheet(5, 0, 1, 4)}
	f := []api.Fixture{fixture(0, 1, 60), fixture(0, 2, 60, 0), fixture(3, 4, 50, 0, 1)}
	s := two(1)
	room := append(make([]int, 0, 50), slots...)
	keptSlots, keptLots, keptSheets, keptSessions := slices.Clone(slots), slices.Clone(lots), slices.Clone(l), slices.Clone(s)
	twice(t, "Order", func() []int { return mustOrder(t, 8) })
	twice(t, "Draw", func() []int { return mustDraw(t, 6, 1, lots) })
	twice(t, "Sides", func() [][2]int { return mustSides(t, room, l) })
	twice(t, "Table", func() []api.Row { return mustTable(t, 4, l) })
	twice(t, "Places", func() []int { return mustPlaces(t, 4, l) })
	twice(t, "Substitute", func() []int { return mustSubstitute(t, room, 3, 9) })
	twice(t, "Slate", func() []api.Booking { return mustSlate(t, f, s, 1) })
	event.Champion(room, l)
	event.Meet(room, 0, 1)
	event.Counts(l, 1)
	if !slices.Equal(room, keptSlots) || slices.ContainsFunc(room[len(room):cap(room)], func(n int) bool { return n != 0 }) ||
		!slices.Equal(lots, keptLots) || !slices.Equal(l, keptSheets) || !slices.Equal(s, keptSessions) ||
		!slices.Equal(f[1].After, []int{0}) || !slices.Equal(f[2].After, []int{0, 1}) {
		t.Errorf("arguments were changed: %v, %v, %v, %v, %v", room[:cap(room)], lots, l, s, f)
	}
}

// R5: the rounds of a result share no memory with each other, or with another result.
func TestMemoryOfRounds(t *testing.T) {
	for n := 2; n <= api.MaxBlock; n++ {
		for i, round := range mustRounds(t, n) {
			rounds := mustRounds(t, n)
			clear(rounds[i][:cap(rounds[i])])
			rounds[i] = round
			checkRounds(t, n, rounds)
		}
	}
}

// R10: equal calls return equal results.
func TestAgain(t *testing.T) {
	r := dice(10)
	for range 50 {
		slots, l, f, s := anySlots(r, 32), anySheets(r, 100, 40), anyFixtures(r, 12), anySessions(r)
		sides, champion := modelSides(slots, l)
		checkTable(t, 9, l, mustTable(t, 9, l), mustPlaces(t, 9, l)...)
		checkSides(t, slots, l, sides, champion)
		checkSlate(t, "again", f, s, 1, mustSlate(t, f, s, 1)...)
		for _, p := range slots {
			if p != bye && !slices.Contains(slots, 500) {
				if a, b := mustSubstitute(t, slots, p, 500), mustSubstitute(t, slots, p, 500); !slices.Equal(a, b) {
					t.Errorf("Substitute(%v, %d, 500): %v, and then %v", slots, p, a, b)
				}
			}
		}
	}
}
