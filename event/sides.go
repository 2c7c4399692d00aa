package event

import (
	"slices"

	"roquet/api"
)

// open is a side whose match has no winner yet.
const open = -2

// Sides returns both sides of all matches.
func Sides(slots []int, l []api.Score) ([][2]int, api.Errno) {
	if e := firstError(CheckDraw(slots), checkSheets(l)); e != api.OK {
		return nil, e
	}
	line := entrants(slots, l)
	sides := make([][2]int, len(slots)-1)
	for m := range sides {
		sides[m] = sidesOf(line, m)
	}
	return sides, api.OK
}

// Champion returns the winner of a draw.
func Champion(slots []int, l []api.Score) (int, api.Errno) {
	if e := firstError(CheckDraw(slots), checkSheets(l)); e != api.OK {
		return 0, e
	}
	line := entrants(slots, l)
	champion := line[len(line)-1]
	if champion == open {
		return 0, api.ErrNone
	}
	return champion, api.OK
}

// entrants returns who comes into the matches of a draw: those of the slots, and then the winner of each match. Two that are neighbours meet, from the first two on, so that the match m is that of those at 2 m and 2 m + 1.
func entrants(slots []int, l []api.Score) []int {
	count := counting(l)
	line := slices.Clone(slots)
	for m := range len(slots) - 1 {
		line = append(line, winner(sidesOf(line, m), m, count))
	}
	return line
}

// sidesOf returns both sides of a match.
func sidesOf(line []int, m int) [2]int {
	return [2]int{line[2*m], line[2*m+1]}
}

// winner returns the winner of a match with these sides, or open if there is none yet.
func winner(sides [2]int, m int, count map[int]api.Score) int {
	upper, lower := sides[0], sides[1]
	switch {
	case upper == api.Bye:
		return lower
	case lower == api.Bye:
		return upper
	case upper == open || lower == open:
		return open
	}
	if s, ok := count[m]; ok {
		return sides[s.Winner]
	}
	return open
}
