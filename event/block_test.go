package event_test

import (
	"math"
	"slices"
	"testing"

	"roquet/api"
	"roquet/event"
)

// noBlocks are numbers of players of which there is no block.
func noBlocks() []int {
	return []int{1, 0, -1, -2, api.MaxBlock + 1, 100, math.MinInt, math.MaxInt}
}

// P11.6: the rounds of small blocks.
func TestRounds(t *testing.T) {
	for n, want := range map[int][][][2]int{
		2: {{{0, 1}}},
		3: {{{1, 2}}, {{0, 2}}, {{0, 1}}},
		4: {{{0, 3}, {1, 2}}, {{0, 2}, {1, 3}}, {{0, 1}, {2, 3}}},
		5: {{{1, 4}, {2, 3}}, {{0, 2}, {3, 4}}, {{0, 4}, {1, 3}}, {{0, 1}, {2, 4}}, {{0, 3}, {1, 2}}},
		6: {{{0, 5}, {1, 4}, {2, 3}}, {{0, 2}, {1, 5}, {3, 4}}, {{0, 4}, {1, 3}, {2, 5}}, {{0, 1}, {2, 4}, {3, 5}}, {{0, 3}, {1, 2}, {4, 5}}},
	} {
		checkRounds(t, n, want)
	}
}

// checkRounds fails if the rounds of a block are not these.
func checkRounds(t *testing.T, n int, want [][][2]int) {
	t.Helper()
	rounds := mustRounds(t, n)
	if !slices.EqualFunc(rounds, want, slices.Equal[[][2]int]) {
		t.Errorf("Rounds(%d): %v, want %v", n, rounds, want)
	}
}

// P11.6: the rounds of all blocks against the second version.
func TestRoundsModel(t *testing.T) {
	for n := 2; n <= api.MaxBlock; n++ {
		checkRounds(t, n, modelRounds(n))
	}
}

// P11.6: the numbers of games, whichever of both players is named first.
func TestGame(t *testing.T) {
	for _, x := range []struct{ n, a, b, want int }{{4, 2, 1, 3}, {2, 0, 1, 0}, {4, 0, 3, 2}, {4, 2, 3, 5}, {16, 15, 14, 119}, {16, 0, 15, 14}, {3, 1, 2, 2}} {
		if g, e := event.Game(x.n, x.a, x.b); g != x.want || e != api.OK {
			t.Errorf("Game(%d, %d, %d): %d, error %d, want %d", x.n, x.a, x.b, g, e, x.want)
		}
	}
	for n := 2; n <= api.MaxBlock; n++ {
		for number, pair := range modelPairs(n) {
			for _, two := range [][2]int{pair, {pair[1], pair[0]}} {
				if g, e := event.Game(n, two[0], two[1]); g != number || e != api.OK {
					t.Errorf("Game(%d, %v): %d, error %d, want %d", n, two, g, e, number)
				}
			}
		}
	}
}

// P11.6: numbers of players, and players, that there are not.
func TestBlockErrors(t *testing.T) {
	for _, n := range noBlocks() {
		if rounds, e := event.Rounds(n); len(rounds) > 0 || e != api.ErrRange {
			t.Errorf("Rounds(%d): %v, error %d, want ErrRange", n, rounds, e)
		}
		for _, two := range [][2]int{{0, 1}, {0, 0}, {-1, n}} {
			if g, e := event.Game(n, two[0], two[1]); g != 0 || e != api.ErrRange {
				t.Errorf("Game(%d, %v): %d, error %d, want ErrRange", n, two, g, e)
			}
		}
	}
	for _, n := range []int{2, 5, api.MaxBlock} {
		for _, two := range [][2]int{{0, 0}, {1, 1}, {n - 1, n - 1}, {n, n}, {-1, 0}, {0, -1}, {0, n}, {n, 0}, {-1, n}, {math.MinInt, 1}, {1, math.MaxInt}} {
			if g, e := event.Game(n, two[0], two[1]); g != 0 || e != api.ErrArg {
				t.Errorf("Game(%d, %v): %d, error %d, want ErrArg", n, two, g, e)
			}
		}
	}
}
