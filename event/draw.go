package event

import (
	"math/bits"
	"slices"

	"roquet/api"
)

// Order returns the seed order.
func Order(size int) ([]int, api.Errno) {
	if !isSize(size) {
		return nil, api.ErrRange
	}
	return seedOrder(size), api.OK
}

// isSize reports whether n is a power of two up to that of the greatest draw.
func isSize(n int) bool {
	return between(n, 1, api.MaxField) && n&(n-1) == 0
}

// seedOrder returns the seed order of a size.
func seedOrder(size int) []int {
	var order func(n int) []int
	order = func(n int) []int {
		if n == 1 {
			return []int{0}
		}
		var l []int
		for _, x := range order(n / 2) {
			l = append(l, x, n-1-x)
		}
		return l
	}
	return order(size)
}

// Draw returns a draw.
func Draw(n, seeds int, lots []int) ([]int, api.Errno) {
	if !between(n, 2, api.MaxField) || !between(seeds, 0, n) {
		return nil, api.ErrRange
	}
	if len(lots) != n-seeds {
		return nil, api.ErrEqual
	}
	if slices.ContainsFunc(lots, func(lot int) bool { return lot < 0 }) {
		return nil, api.ErrArg
	}
	players := ranked(n, seeds, lots)
	slots := seedOrder(sizeFor(n))
	for i, rank := range slots {
		slots[i] = api.Bye
		if rank < n {
			slots[i] = players[rank]
		}
	}
	return slots, api.OK
}

// sizeFor returns the least power of two that is at least n.
func sizeFor(n int) int {
	return 1 << bits.Len(uint(n-1))
}

// ranked returns players by their ranks: the seeds, and then the others as the lots have it.
func ranked(n, seeds int, lots []int) (players []int) {
	var left []int
	for p := range n {
		if p < seeds {
			players = append(players, p)
		} else {
			left = append(left, p)
		}
	}
	for _, lot := range lots {
		i := lot % len(left)
		players = append(players, left[i])
		left = slices.Delete(left, i, i+1)
	}
	return players
}

// CheckDraw reports whether slots are a draw.
func CheckDraw(slots []int) api.Errno {
	if len(slots) > api.MaxField {
		return api.ErrMany
	}
	if len(slots) < 2 || !isSize(len(slots)) || !areApart(slots) {
		return api.ErrArg
	}
	for m := range len(slots) / 2 {
		if slots[2*m] == api.Bye && slots[2*m+1] == api.Bye {
			return api.ErrArg
		}
	}
	return api.OK
}

// areApart reports whether there are only players in slots, and Byes, and each player has just one slot.
func areApart(slots []int) bool {
	byes := 0
	for _, p := range slots {
		switch {
		case p == api.Bye:
			byes++
		case !isPlayer(p):
			return false
		}
	}
	return len(slotsOf(slots))+byes == len(slots)
}

// slotsOf returns where each player is in slots.
func slotsOf(slots []int) map[int]int {
	at := map[int]int{}
	for i, p := range slots {
		if p != api.Bye {
			at[p] = i
		}
	}
	return at
}

// Meet returns the round in which two players meet.
func Meet(slots []int, a, b int) (int, api.Errno) {
	if e := CheckDraw(slots); e != api.OK {
		return 0, e
	}
	at := slotsOf(slots)
	i, ok := at[a]
	k, both := at[b]
	if !ok || !both || a == b {
		return 0, api.ErrNone
	}
	round := 0
	for i, k = i/2, k/2; i != k; i, k = i/2, k/2 {
		round++
	}
	return round, api.OK
}

// Substitute puts in a substitute.
func Substitute(slots []int, player, by int) ([]int, api.Errno) {
	if e := CheckDraw(slots); e != api.OK {
		return nil, e
	}
	at := slotsOf(slots)
	slot, ok := at[player]
	if !ok {
		return nil, api.ErrNone
	}
	if !isPlayer(by) {
		return nil, api.ErrArg
	}
	if _, ok := at[by]; ok {
		return nil, api.ErrHave
	}
	delete(at, player)
	at[by] = slot
	after := slices.Repeat([]int{api.Bye}, len(slots))
	for p, i := range at {
		after[i] = p
	}
	return after, api.OK
}
