package double_test

import (
	"math/rand"
	"slices"
	"testing"

	"roquet/api"
	"roquet/double"
)

// anyList returns passes of any sheet, or with times as great as they may be, or with ways of all kinds.
func anyList(r *rand.Rand) []api.Pass {
	l := among(r, sheets()...).anyPasses(r)
	switch r.Intn(4) {
	case 0:
		for i := range l {
			l[i].Asked = api.MaxClock - r.Int63n(1<<from(r, 0, 30))
			l[i].Long = from(r, 1, api.MaxLong)
		}
	case 1:
		for i := range l {
			p := anyWay(r, l[i].Game, 1000)
			l[i].A, l[i].B, l[i].R = p.A, p.B, p.R
		}
	}
	return l[:r.Intn(len(l)+1)]
}

// P8.8: the starts of Arrange are right.
func TestNoBallInAWay(t *testing.T) {
	r := dice(90)
	for range 1500 {
		l := anyList(r)
		starts := startsOf(mustArrange(t, l))
		if n, e := double.CheckStarts(l, starts); n != len(l) || e != api.OK {
			t.Errorf("CheckStarts(%v, %v): %d, error %d", l, starts, n, e)
		}
		for i, p := range l {
			for k, q := range l[:i] {
				if mustMeet(t, p, q) && starts[i] < starts[k]+q.Long && starts[k] < starts[i]+p.Long {
					t.Errorf("%v: %d and %d are in the way of each other at %d and %d", l, i, k, starts[i], starts[k])
				}
			}
		}
	}
}

// P8.9, P8.10: each pass begins when it is ready, or at the end of one of the other game that it meets; a right of way is kept.
func TestNoSooner(t *testing.T) {
	r := dice(91)
	waits := 0
	for range 1500 {
		l := anyList(r)
		slots := mustArrange(t, l)
		ready := mustReady(t, l, startsOf(slots))
		for i, s := range slots {
			if s.By == none {
				if s.Start != ready[i] {
					t.Errorf("%v: %d begins at %d and waits for none, but is ready at %d", l, i, s.Start, ready[i])
				}
				continue
			}
			waits++
			by := slots[s.By].Start
			if s.Start <= ready[i] || s.Start != by+l[s.By].Long || l[s.By].Game == l[i].Game || !mustMeet(t, l[i], l[s.By]) {
				t.Errorf("%v: %d is ready at %d, but waits for %d: %v", l, i, ready[i], s.By, slots)
			}
			if l[s.By].Rank < l[i].Rank && by >= ready[i] {
				t.Errorf("%v: %d is ready at %d, but waits for %d, of a lower rank, that begins at %d", l, i, ready[i], s.By, by)
			}
		}
	}
	if waits < 1000 {
		t.Errorf("%d passes waited", waits)
	}
}

// P8.11: the passes of one game alone, and those that do not meet any of the other game, wait for none.
func TestAlone(t *testing.T) {
	r := dice(92)
	for range 500 {
		l := anyList(r)
		for i := range l {
			l[i].Game = 1
		}
		slots := mustArrange(t, l)
		ready := mustReady(t, l, startsOf(slots))
		for i, s := range slots {
			if s != slot(ready[i], none) {
				t.Errorf("%v: alone, %d waits: %v", l, i, s)
			}
		}
		if w, e := double.Waited(l); w != [2]int64{} || e != api.OK {
			t.Errorf("Waited(%v): %v, error %d", l, w, e)
		}
	}
	for range 500 {
		l := anyList(r)
		slots := mustArrange(t, l)
		for i, s := range slots {
			if s.By != none && !slices.ContainsFunc(l, func(q api.Pass) bool { return mustMeet(t, l[i], q) }) {
				t.Errorf("%v: %d meets none, and waits for %d", l, i, s.By)
			}
		}
	}
}

// P8.11: each game is arranged as if it were alone if the other one is aside.
func TestAside(t *testing.T) {
	r := dice(93)
	for range 300 {
		var l []api.Pass
		for range r.Intn(api.MaxPasses + 1) {
			game := r.Intn(2)
			l = append(l, lane(int64(2*r.Intn(3)+game), game, r.Intn(10), r.Int63n(60), 1+r.Int63n(9)))
		}
		slots := mustArrange(t, l)
		ready := mustReady(t, l, startsOf(slots))
		for i, s := range slots {
			if s != slot(ready[i], none) {
				t.Errorf("%v: aside, %d waits: %v", l, i, s)
			}
		}
	}
}

// P8.13: the last pass ends no later than the latest Asked and all Long together.
func TestEnded(t *testing.T) {
	r := dice(94)
	latest := 0
	for range 1500 {
		l := anyList(r)
		var asked, long, end int64
		for i, s := range mustArrange(t, l) {
			asked, long, end = max(asked, l[i].Asked), long+l[i].Long, max(end, s.Start+l[i].Long)
		}
		if end > asked+long {
			t.Errorf("%v: ended at %d", l, end)
		}
		if len(l) > 0 && end == asked+long {
			latest++
		}
	}
	if latest == 0 {
		t.Errorf("none ended as late as may be")
	}
}

// R10: equal calls return equal results, however the goroutines go.
func TestAgain(t *testing.T) {
	r := dice(95)
	for range 50 {
		l := anyList(r)
		slots := mustArrange(t, l)
		done := make(chan []api.Slot)
		for range 8 {
			go func() {
				again, _ := double.Arrange(l)
				done <- again
			}()
		}
		for range 8 {
			if again := <-done; !slices.Equal(again, slots) {
				t.Errorf("Arrange(%v): %v, and again %v", l, slots, again)
			}
		}
	}
}
