package event

import (
	"cmp"
	"iter"
	"slices"

	"roquet/api"
)

// checkBlock reports whether a block may have n players.
func checkBlock(n int) api.Errno {
	if !between(n, 2, api.MaxBlock) {
		return api.ErrRange
	}
	return api.OK
}

// Rounds returns the rounds of a block.
func Rounds(n int) ([][][2]int, api.Errno) {
	if e := checkBlock(n); e != api.OK {
		return nil, e
	}
	rounds := make([][][2]int, n-1+n%2)
	for r := range rounds {
		rounds[r] = round(n, len(rounds), r)
	}
	return rounds, api.OK
}

// round returns the games of a round, of so many, of a block of n players. The one who meets the last number has no game if it is n: nobody's.
func round(n, rounds, r int) (games [][2]int) {
	meet := func(a, b int) {
		if max(a, b) < n {
			games = append(games, [2]int{min(a, b), max(a, b)})
		}
	}
	meet(rounds, r)
	for k := 1; k <= rounds/2; k++ {
		meet((r+k)%rounds, (r-k+rounds)%rounds)
	}
	slices.SortFunc(games, func(a, b [2]int) int { return cmp.Compare(a[0], b[0]) })
	return games
}

// Game returns the number of a game of a block.
func Game(n, a, b int) (int, api.Errno) {
	if e := checkBlock(n); e != api.OK {
		return 0, e
	}
	if !between(a, 0, n-1) || !between(b, 0, n-1) || a == b {
		return 0, api.ErrArg
	}
	game := 0
	for number, pair := range games(n) {
		if pair == [2]int{min(a, b), max(a, b)} {
			game = number
			break
		}
	}
	return game, api.OK
}

// games yields the games of a block, with their numbers.
func games(n int) iter.Seq2[int, [2]int] {
	return func(yield func(int, [2]int) bool) {
		number := 0
		for a := range n {
			for b := a + 1; b < n; b++ {
				if !yield(number, [2]int{a, b}) {
					return
				}
				number++
			}
		}
	}
}
