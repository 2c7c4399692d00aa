package index

import (
	"roquet/api"
	"roquet/game"
)

// Halves returns the halves of two players.
func Halves(a, b api.Player) ([2]int, api.Errno) {
	if e := CheckPlayers([]api.Player{a, b}); e != api.OK {
		return [2]int{}, e
	}
	return [2]int{halves(a, b), halves(b, a)}, api.OK
}

// halves returns the halves that a player gets against another one.
func halves(p, other api.Player) int {
	return min(max(p.Grade-other.Grade, 0), api.MaxHalves)
}

// Begin returns the new position of a game of two players.
func Begin(code int, a, b api.Player) (api.Game, api.Errno) {
	given, e := Halves(a, b)
	if e != api.OK {
		return api.Game{}, e
	}
	if laws, e := game.Laws(code); e == api.OK && !laws.Bisques {
		given = [2]int{}
	}
	return game.New(code, given)
}
