package double_test

import (
	"math"
	"runtime"
	"slices"
	"testing"
	"time"

	"roquet/api"
	"roquet/double"
)

// refused checks that all functions with passes return an error, and nothing else, whatever their other arguments are.
func refused(t *testing.T, l []api.Pass, want api.Errno) {
	t.Helper()
	if slots, e := double.Arrange(l); len(slots) > 0 || e != want {
		t.Errorf("Arrange(%v): %v, error %d, want %d", l, slots, e, want)
	}
	if w, e := double.Waited(l); w != [2]int64{} || e != want {
		t.Errorf("Waited(%v): %v, error %d, want %d", l, w, e, want)
	}
	for _, limits := range [][2]int64{{}, {9, 9}, {-1, 9}, {9, math.MaxInt64}} {
		if n, e := double.InTime(l, limits); n != [2]int{} || e != want {
			t.Errorf("InTime(%v, %v): %v, error %d, want %d", l, limits, n, e, want)
		}
	}
	for _, starts := range [][]int64{nil, {-1}, make([]int64, len(l)), slices.Repeat([]int64{-1}, len(l))} {
		refusedStarts(t, l, starts, want)
	}
}

// refusedStarts checks that both functions with starts return an error, and nothing else.
func refusedStarts(t *testing.T, l []api.Pass, starts []int64, want api.Errno) {
	t.Helper()
	if ready, e := double.Ready(l, starts); len(ready) > 0 || e != want {
		t.Errorf("Ready(%v, %v): %v, error %d, want %d", l, starts, ready, e, want)
	}
	if n, e := double.CheckStarts(l, starts); n != 0 || e != want {
		t.Errorf("CheckStarts(%v, %v): %d, error %d, want %d", l, starts, n, e, want)
	}
}

// P8.3, P8.4, P8.5: the errors of passes come before all others.
func TestPassErrors(t *testing.T) {
	for _, bad := range badPasses() {
		for n := range 3 {
			l := repeat(3, good())
			l[n] = bad
			refused(t, l, api.ErrArg)
		}
	}
	refused(t, repeat(tooMany, good()), api.ErrMany)
	refused(t, repeat(tooMany, api.Pass{}), api.ErrMany)
}

// P8.3: starts that are too few or too many come next, then those that are out of range, and then those that are wrong.
func TestStartErrors(t *testing.T) {
	out := []int64{-1, 2*api.MaxClock + 1, math.MinInt64, math.MaxInt64}
	own, other := lane(0, 0, 0, 10, 5), lane(0, 1, 0, 10, 5)
	for _, l := range [][]api.Pass{nil, passes(own), passes(own, other), repeat(api.MaxPasses, own)} {
		for _, n := range []int{0, 1, 2, len(l) - 1, len(l) + 1, 100000} {
			if n < 0 || n == len(l) {
				continue
			}
			refusedStarts(t, l, make([]int64, n), api.ErrEqual)
			refusedStarts(t, l, slices.Repeat([]int64{-1}, n), api.ErrEqual)
		}
		for i := range l {
			for _, bad := range out {
				starts := slices.Repeat([]int64{10}, len(l)) // from the second one on they are too early, or in the way
				starts[i] = bad
				refusedStarts(t, l, starts, api.ErrRange)
			}
		}
	}
}

// P8.2: the error of the first pass, or of the second one, also if both are of one game.
func TestMeetErrors(t *testing.T) {
	for _, bad := range badPasses() {
		for _, x := range [][2]api.Pass{{bad, good()}, {good(), bad}, {bad, bad}, {bad, lane(0, 1, 0, 0, 1)}, {lane(0, 1, 0, 0, 1), bad}} {
			if met, e := double.Meet(x[0], x[1]); met || e != api.ErrArg {
				t.Errorf("Meet(%v, %v): %v, error %d, want ErrArg", x[0], x[1], met, e)
			}
		}
	}
}

// P8.5: limits that are out of range.
func TestInTimeErrors(t *testing.T) {
	for _, l := range [][]api.Pass{nil, passes(good()), repeat(api.MaxPasses, good())} {
		for _, bad := range []int64{-1, api.MaxClock + 1, math.MinInt64, math.MaxInt64} {
			for _, limits := range [][2]int64{{bad, 9}, {9, bad}, {bad, bad}} {
				if n, e := double.InTime(l, limits); n != [2]int{} || e != api.ErrRange {
					t.Errorf("InTime(%v, %v): %v, error %d, want ErrRange", l, limits, n, e)
				}
			}
		}
	}
}

// P8.6: the error of the pass, then that of the number of balls, then that of a ball.
func TestInWayErrors(t *testing.T) {
	ball := disc(0, 0, 5)
	noBalls := []api.Disc{
		{}, disc(0, 0, 0), disc(0, 0, -1), disc(0, 0, api.MaxRadius+1), disc(0, 0, math.MaxInt64), disc(0, 0, math.MinInt64),
		disc(far+1, 0, 5), disc(0, far+1, 5), disc(-far-1, 0, 5), disc(0, -far-1, 5), disc(math.MinInt64, math.MaxInt64, 5),
	}
	check := func(p api.Pass, others []api.Disc, want api.Errno) {
		t.Helper()
		if l, e := double.InWay(p, others); len(l) > 0 || e != want {
			t.Errorf("InWay(%v, %v): %v, error %d, want %d", p, others, l, e, want)
		}
	}
	more := slices.Repeat([]api.Disc{ball}, api.MaxOthers+1)
	for _, bad := range badPasses() {
		check(bad, nil, api.ErrArg)
		check(bad, []api.Disc{ball}, api.ErrArg)
		check(bad, more, api.ErrArg)
	}
	check(good(), more, api.ErrMany)
	check(good(), make([]api.Disc, 100000), api.ErrMany)
	for _, bad := range noBalls {
		check(good(), []api.Disc{bad}, api.ErrArg)
		check(good(), []api.Disc{ball, bad}, api.ErrArg)
		check(good(), []api.Disc{bad, ball, ball}, api.ErrArg)
		check(good(), append(slices.Repeat([]api.Disc{ball}, api.MaxOthers-1), bad), api.ErrArg)
		check(good(), append(more[:api.MaxOthers:api.MaxOthers], bad), api.ErrMany)
	}
}

// R5: no argument is changed, and each result is new memory.
func TestMemory(t *testing.T) {
	l := passes(lane(0, 0, 1, 0, 10), lane(0, 1, 2, 5, 10), lane(0, 0, 1, 0, 10), lane(0, 1, 2, 0, 10))
	starts, others := []int64{40, 5, 50, 15}, []api.Disc{disc(0, 0, 5), disc(0, 1, 5)}
	kept, keptStarts, keptOthers := slices.Clone(l), slices.Clone(starts), slices.Clone(others)
	slots, ready := mustArrange(t, l), mustReady(t, l, starts)
	way, _ := double.InWay(l[0], others)
	double.CheckStarts(l, starts)
	double.Waited(l)
	double.InTime(l, [2]int64{9, 9})
	for i := range l {
		slots[i], ready[i] = api.Slot{}, 0
	}
	way[0] = 7
	if !slices.Equal(l, kept) || !slices.Equal(starts, keptStarts) || !slices.Equal(others, keptOthers) {
		t.Errorf("arguments were changed: %v, %v, %v", l, starts, others)
	}
	checkSlots(t, "again", l, slot(25, 3), slot(5, none), slot(35, none), slot(15, none))
	if again := mustReady(t, l, starts); !slices.Equal(again, []int64{0, 5, 50, 15}) {
		t.Errorf("Ready again: %v", again)
	}
	if again, e := double.InWay(l[0], others); !slices.Equal(again, []int{0, 1}) || e != api.OK {
		t.Errorf("InWay again: %v, error %d", again, e)
	}
}

// No goroutine goes on behind a call.
func TestJoined(t *testing.T) {
	before := runtime.NumGoroutine()
	l := fullList()
	for range 200 {
		mustArrange(t, l)
		double.Waited(l)
		double.InTime(l, [2]int64{9, 9})
	}
	for range 1000 { // one that has closed its channel may take a moment to end
		if runtime.NumGoroutine() <= before {
			return
		}
		time.Sleep(time.Millisecond)
	}
	t.Errorf("%d goroutines, and before %d", runtime.NumGoroutine(), before)
}

// fullList returns as many passes as there may be.
func fullList() []api.Pass { return sheet{api.MaxPasses, 2, 100, 9, 9}.anyPasses(dice(96)) }
