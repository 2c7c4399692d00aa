package double

import "roquet/api"

// Arrange returns the slots of passes.
func Arrange(l []api.Pass) ([]api.Slot, api.Errno) {
	if e := CheckAll(l); e != api.OK {
		return nil, e
	}
	slots := make([]api.Slot, len(l))
	for t := range turns(l) {
		slots[t.pass] = api.Slot{Start: t.start, By: t.by}
	}
	return slots, api.OK
}

// Waited returns what both games waited.
func Waited(l []api.Pass) ([2]int64, api.Errno) {
	if e := CheckAll(l); e != api.OK {
		return [2]int64{}, e
	}
	var waited [2]int64
	for t := range turns(l) {
		waited[l[t.pass].Game] += t.waited()
	}
	return waited, api.OK
}

// InTime returns how many passes are in time.
func InTime(l []api.Pass, limits [2]int64) ([2]int, api.Errno) {
	if e := CheckAll(l); e != api.OK {
		return [2]int{}, e
	}
	for _, limit := range limits {
		if !between(limit, 0, api.MaxClock) {
			return [2]int{}, api.ErrRange
		}
	}
	var count [2]int
	for t := range turns(l) {
		game := l[t.pass].Game
		limits[game] += t.waited() // time that is given back
		if t.start < limits[game] {
			count[game]++
		}
	}
	return count, api.OK
}

// turns tells whose turn it is until each of these passes has had one, those of a game in their order. What it tells has to be received to the end.
func turns(l []api.Pass) <-chan turn {
	told := make(chan turn)
	go func() {
		defer close(told)
		a := arrangementOf(l)
		for range l {
			told <- a.turn()
		}
	}()
	return told
}
