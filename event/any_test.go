package event_test

import (
	"math"
	"math/rand"
	"testing"

	"roquet/api"
	"roquet/event"
)

// anyNumber returns a number of any size; often one about a limit.
func anyNumber(r *rand.Rand) int {
	switch r.Intn(4) {
	case 0:
		return []int{math.MinInt, math.MaxInt, -1, 0, 1, 2, 1000, 1001, api.MaxField, api.MaxField + 1, api.MaxBlock, api.MaxBlock + 1, api.MaxMinutes, api.MaxPlus}[r.Intn(14)]
	case 1:
		return int(r.Uint64())
	}
	return from(r, -2, 6)
}

// anyList returns at most so many things.
func anyList[T any](r *rand.Rand, most int, thing func() T) []T {
	var l []T
	for range r.Intn(most + 1) {
		l = append(l, thing())
	}
	return l
}

// noMore fails if a result with an error is not its zero value.
func noMore(t *testing.T, name string, isZero bool, e api.Errno) {
	t.Helper()
	if e != api.OK && !isZero {
		t.Errorf("%s: error %d, and a result", name, e)
	}
}

// P1, R2, R6: all functions end for any arguments, and return nothing with an error.
func TestAnyArguments(t *testing.T) {
	r := dice(1)
	number := func() int { return anyNumber(r) }
	score := func() api.Score { return sheet(number(), number(), number(), number()) }
	for range 20000 {
		n, a, b := number(), number(), number()
		slots, l := anyList(r, 8, number), anyList(r, 2, score)
		f := anyList(r, 4, func() api.Fixture { return fixture(number(), number(), number(), anyList(r, 2, number)...) })
		s := anyList(r, 3, func() api.Session { return session(int64(number()), int64(number()), number()) })
		order, e := event.Order(n)
		noMore(t, "Order", order == nil, e)
		draw, e := event.Draw(n, a, slots)
		noMore(t, "Draw", draw == nil, e)
		_, e = event.Counts(l, n)
		if known := event.CheckDraw(slots); known != api.OK && known != api.ErrArg || e != api.OK && e != api.ErrArg && e != api.ErrNone {
			t.Errorf("CheckDraw(%v): error %d; Counts(%v, %d): error %d", slots, known, l, n, e)
		}
		sides, e := event.Sides(slots, l)
		noMore(t, "Sides", sides == nil, e)
		champion, e := event.Champion(slots, l)
		noMore(t, "Champion", champion == 0, e)
		round, e := event.Meet(slots, a, b)
		noMore(t, "Meet", round == 0, e)
		rounds, e := event.Rounds(n)
		noMore(t, "Rounds", rounds == nil, e)
		game, e := event.Game(n, a, b)
		noMore(t, "Game", game == 0, e)
		table, e := event.Table(n, l)
		noMore(t, "Table", table == nil, e)
		places, e := event.Places(n, l)
		noMore(t, "Places", places == nil, e)
		after, e := event.Substitute(slots, a, b)
		noMore(t, "Substitute", after == nil, e)
		slate, e := event.Slate(f, s, from(r, 0, 3))
		noMore(t, "Slate", slate == nil, e)
	}
}
