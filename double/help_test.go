package double_test

import (
	"math"
	"math/rand"
	"slices"
	"testing"

	"roquet/api"
	"roquet/double"
)

const (
	none    = api.NoBall
	far     = api.MaxPlace // the greatest coordinate of a valid place
	tooMany = api.MaxPasses + 1
)

// dice returns a source of numbers that are the same at each run.
func dice(seed int64) *rand.Rand { return rand.New(rand.NewSource(seed)) }

// from returns a number from a to b.
func from(r *rand.Rand, a, b int64) int64 { return a + r.Int63n(b-a+1) }

// among returns one of some things.
func among[T any](r *rand.Rand, l ...T) T { return l[r.Intn(len(l))] }

// at returns a place.
func at(x, y int64) api.Point { return api.Point{X: x, Y: y} }

// disc returns a disc.
func disc(x, y, r int64) api.Disc { return api.Disc{At: at(x, y), R: r} }

// passes returns a list of passes.
func passes(l ...api.Pass) []api.Pass { return l }

// lane returns a pass along the line with this X; passes of both games meet just if they are in the same lane, from 0 to 9.
func lane(x int64, game, rank int, asked, long int64) api.Pass {
	return api.Pass{Game: game, Rank: rank, Asked: asked, Long: long, A: at(10000*x, 0), B: at(10000*x, 5000), R: 3000}
}

// way returns a pass from a to b.
func way(game int, a, b api.Point, r int64) api.Pass {
	return api.Pass{Game: game, Long: 1, A: a, B: b, R: r}
}

// with returns a pass that was changed.
func with(p api.Pass, change func(p *api.Pass)) api.Pass {
	change(&p)
	return p
}

// good is a valid pass.
func good() api.Pass { return lane(0, 0, 1, 5, 20) }

// badPasses are passes each of which is not valid for one number.
func badPasses() []api.Pass {
	var l []api.Pass
	add := func(change func(p *api.Pass)) { l = append(l, with(good(), change)) }
	for _, n := range []int{-1, 2, 3, math.MinInt, math.MaxInt} {
		add(func(p *api.Pass) { p.Game = n })
	}
	for _, n := range []int{-1, 10, math.MinInt, math.MaxInt} {
		add(func(p *api.Pass) { p.Rank = n })
	}
	for _, n := range []int64{-1, api.MaxClock + 1, math.MinInt64, math.MaxInt64} {
		add(func(p *api.Pass) { p.Asked = n })
	}
	for _, n := range []int64{0, -1, 4097, math.MinInt64, math.MaxInt64} {
		add(func(p *api.Pass) { p.Long = n })
	}
	for _, n := range []int64{0, -1, 16385, math.MinInt64, math.MaxInt64} {
		add(func(p *api.Pass) { p.R = n })
	}
	for _, n := range []int64{-far - 1, far + 1, math.MinInt64, math.MaxInt64} {
		add(func(p *api.Pass) { p.A.X = n })
		add(func(p *api.Pass) { p.A.Y = n })
		add(func(p *api.Pass) { p.B.X = n })
		add(func(p *api.Pass) { p.B.Y = n })
	}
	return l
}

// sheet is how lists of passes are made: how many passes, how many lanes, and how great their times may be.
type sheet struct {
	count, lanes      int
	asked, long, rank int64
}

// anyPasses returns passes in lanes.
func (s sheet) anyPasses(r *rand.Rand) []api.Pass {
	var l []api.Pass
	for range s.count {
		l = append(l, lane(r.Int63n(int64(s.lanes)), r.Intn(2), int(from(r, 0, s.rank)), from(r, 0, s.asked), from(r, 1, s.long)))
	}
	return l
}

// sheets are those that the random tests use: with little time, with much, with few passes, and with as many as there may be.
func sheets() []sheet {
	return []sheet{
		{4, 1, 10, 6, 1},
		{6, 1, 10, 5, 0},
		{8, 2, 12, 6, 2},
		{12, 1, 30, 9, 9},
		{14, 3, 40, 12, 3},
		{20, 2, 0, 9, 2},
		{api.MaxPasses, 1, 60, 8, 9},
		{api.MaxPasses, 3, 100, 9, 2},
	}
}

// mustArrange returns the slots of passes, and fails if there are none.
func mustArrange(t *testing.T, l []api.Pass) []api.Slot {
	t.Helper()
	slots, e := double.Arrange(l)
	if e != api.OK || len(slots) != len(l) {
		t.Fatalf("Arrange(%v): %v, error %d", l, slots, e)
	}
	return slots
}

// mustReady returns when passes are ready, and fails if that is not known.
func mustReady(t *testing.T, l []api.Pass, starts []int64) []int64 {
	t.Helper()
	ready, e := double.Ready(l, starts)
	if e != api.OK || len(ready) != len(l) {
		t.Fatalf("Ready(%v, %v): %v, error %d", l, starts, ready, e)
	}
	return ready
}

// mustMeet reports whether two passes meet, and fails if it is not known.
func mustMeet(t *testing.T, p, q api.Pass) bool {
	t.Helper()
	meet, e := double.Meet(p, q)
	if e != api.OK {
		t.Fatalf("Meet(%v, %v): error %d", p, q, e)
	}
	return meet
}

// startsOf returns the starts of slots.
func startsOf(slots []api.Slot) []int64 {
	l := []int64{}
	for _, s := range slots {
		l = append(l, s.Start)
	}
	return l
}

// checkSlots fails if passes are not arranged so.
func checkSlots(t *testing.T, name string, l []api.Pass, want ...api.Slot) {
	t.Helper()
	if slots := mustArrange(t, l); !slices.Equal(slots, want) {
		t.Errorf("%s: Arrange(%v): %v, want %v", name, l, slots, want)
	}
}

// repeat returns a pass several times.
func repeat(n int, p api.Pass) []api.Pass { return slices.Repeat(passes(p), n) }
