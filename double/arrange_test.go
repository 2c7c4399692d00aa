package double_test

import (
	"slices"
	"testing"

	"roquet/api"
	"roquet/double"
)

// slot returns a slot.
func slot(start int64, by int) api.Slot { return api.Slot{Start: start, By: by} }

// P8.4: passes of which only one game has some.
func TestArrangeOneGame(t *testing.T) {
	checkSlots(t, "no passes", nil)
	checkSlots(t, "one", passes(lane(0, 1, 0, 7, 5)), slot(7, none))
	checkSlots(t, "behind each other", passes(lane(0, 1, 0, 7, 5), lane(0, 1, 9, 0, 5), lane(0, 1, 3, 17, 5), lane(0, 1, 0, 23, 1)),
		slot(7, none), slot(12, none), slot(17, none), slot(23, none))
	checkSlots(t, "as late as may be", passes(lane(0, 0, 0, api.MaxClock, 4096), lane(0, 0, 0, api.MaxClock, 4096)),
		slot(api.MaxClock, none), slot(api.MaxClock+4096, none))
}

// P8.4: who begins, of two passes that are in the way of each other, or that are not.
func TestArrangeTwo(t *testing.T) {
	for _, x := range []struct {
		name     string
		p, q     api.Pass
		one, two api.Slot
	}{
		{"the greater rank, though it comes later", lane(0, 0, 1, 0, 10), lane(0, 1, 2, 9, 5), slot(14, 1), slot(9, none)},
		{"the greater rank, though it comes later, of the game 0", lane(0, 0, 2, 9, 5), lane(0, 1, 1, 0, 10), slot(9, none), slot(14, 0)},
		{"no second in common", lane(0, 0, 1, 0, 10), lane(0, 1, 2, 10, 5), slot(0, none), slot(10, none)},
		{"no second in common, the other way round", lane(0, 0, 2, 10, 5), lane(0, 1, 1, 0, 10), slot(10, none), slot(0, none)},
		{"equal ranks, asked for earlier", lane(0, 0, 3, 5, 10), lane(0, 1, 3, 4, 10), slot(14, 1), slot(4, none)},
		{"equal ranks, asked for earlier, of the game 0", lane(0, 0, 3, 4, 10), lane(0, 1, 3, 5, 10), slot(4, none), slot(14, 0)},
		{"all the same", lane(0, 0, 3, 4, 10), lane(0, 1, 3, 4, 10), slot(4, none), slot(14, 0)},
		{"all the same, but that the one of the game 1 is shorter", lane(0, 0, 3, 4, 10), lane(0, 1, 3, 4, 1), slot(4, none), slot(14, 0)},
		{"aside", lane(0, 0, 1, 0, 10), lane(1, 1, 2, 5, 10), slot(0, none), slot(5, none)},
		{"ranks at the limits", lane(0, 0, 0, 0, 10), lane(0, 1, 9, 0, 10), slot(10, 1), slot(0, none)},
		{"one second", lane(0, 0, 0, 6, 1), lane(0, 1, 0, 6, 1), slot(6, none), slot(7, 0)},
		{"the greatest times", lane(0, 0, 8, api.MaxClock, 4096), lane(0, 1, 9, api.MaxClock, 4096), slot(api.MaxClock+4096, 1), slot(api.MaxClock, none)},
	} {
		checkSlots(t, x.name, passes(x.p, x.q), x.one, x.two)
		by := func(s api.Slot) api.Slot { // the same slot in the list that is turned round
			if s.By != none {
				s.By = 1 - s.By
			}
			return s
		}
		checkSlots(t, x.name+", turned round", passes(x.q, x.p), by(x.two), by(x.one))
	}
}

// P8.4: gaps, chains, and what passes wait for last.
func TestArrangeMore(t *testing.T) {
	// The pass 2 is of the greatest rank, but the one before it waits, for both of the other game.
	checkSlots(t, "behind one that waits", passes(lane(0, 0, 0, 0, 10), lane(0, 1, 5, 2, 10), lane(0, 0, 9, 0, 10), lane(0, 1, 5, 0, 10)),
		slot(22, 3), slot(2, none), slot(32, none), slot(12, none))
	// The pass 2 ends in time before 0 begins, or it does not, and waits.
	checkSlots(t, "before a greater rank", passes(lane(0, 0, 9, 20, 10), lane(1, 1, 0, 0, 5), lane(0, 1, 0, 5, 15)),
		slot(20, none), slot(0, none), slot(5, none))
	checkSlots(t, "not before a greater rank", passes(lane(0, 0, 9, 20, 10), lane(1, 1, 0, 0, 5), lane(0, 1, 0, 5, 16)),
		slot(20, none), slot(0, none), slot(30, 0))
	// The same between two of a greater rank.
	checkSlots(t, "between greater ranks", passes(lane(0, 0, 9, 5, 5), lane(0, 0, 9, 16, 5), lane(0, 1, 0, 0, 6), lane(0, 1, 0, 0, 3)),
		slot(5, none), slot(16, none), slot(10, 0), slot(21, 1))
	checkSlots(t, "not between greater ranks", passes(lane(0, 0, 9, 5, 5), lane(0, 0, 9, 13, 5), lane(0, 1, 0, 0, 6), lane(0, 1, 0, 0, 3)),
		slot(5, none), slot(13, none), slot(18, 1), slot(24, none))
	// Two passes of the other game, of which only the second one is in the way last.
	checkSlots(t, "waiting for two, one after another", passes(lane(0, 1, 9, 0, 5), lane(0, 1, 9, 0, 5), lane(0, 0, 0, 3, 5)),
		slot(0, none), slot(5, none), slot(10, 1))
	// The pass 3 waits for 1 last, though 2, with which it does not meet, ends then, too, and stands in the list before.
	checkSlots(t, "one that ends at the start, but is aside", passes(lane(1, 1, 9, 0, 7), lane(0, 1, 9, 7, 3), lane(1, 1, 0, 10, 9), lane(0, 0, 0, 6, 5)),
		slot(0, none), slot(7, none), slot(10, none), slot(10, 1))
	// It is asked for just when the other one ends: it waits for none.
	checkSlots(t, "ready at an end", passes(lane(0, 0, 9, 0, 7), lane(0, 1, 0, 7, 3)), slot(0, none), slot(7, none))
	checkSlots(t, "ready by the one before, at an end", passes(lane(0, 0, 9, 0, 7), lane(1, 1, 0, 2, 5), lane(0, 1, 0, 0, 3)),
		slot(0, none), slot(2, none), slot(7, none))
	// The time asked for decides between equal ranks, not the chance, and not the time when it is ready.
	checkSlots(t, "asked for early, but ready late", passes(lane(5, 0, 0, 0, 8), lane(0, 0, 4, 1, 9), lane(5, 1, 0, 0, 1), lane(0, 1, 4, 2, 9)),
		slot(0, none), slot(8, none), slot(8, 0), slot(17, 1))
}

// P8.4, P8.5: slots, waiting and passes in time are those of a second way to arrange, second by second.
func TestArrangeOfAll(t *testing.T) {
	r := dice(85)
	for k := range 1600 {
		s := sheets()[k%8]
		if k%8 > 5 && k > 80 {
			s = sheet{r.Intn(10), 1 + r.Intn(2), int64(r.Intn(25)), 1 + int64(r.Intn(8)), int64(r.Intn(3))}
		}
		l := s.anyPasses(r)
		m := modelArrange(l)
		checkSlots(t, "any", l, m.slots...)
		want := m.waited(len(l) - 1)
		if w, e := double.Waited(l); w != want || e != api.OK {
			t.Errorf("Waited(%v): %v, error %d, want %v", l, w, e, want)
		}
		limits := [2]int64{r.Int63n(120), r.Int63n(60)}
		if n, e := double.InTime(l, limits); n != m.inTime(limits) || e != api.OK {
			t.Errorf("InTime(%v, %v): %v, error %d, want %v", l, limits, n, e, m.inTime(limits))
		}
	}
}

// P8.4: the same with ways of all kinds.
func TestArrangeAnyWays(t *testing.T) {
	r := dice(86)
	waited := 0
	for range 250 {
		var l []api.Pass
		for range r.Intn(12) {
			p := anyWay(r, r.Intn(2), 2000)
			p.Rank, p.Asked, p.Long = r.Intn(4), r.Int63n(40), 1+r.Int63n(12)
			l = append(l, p)
		}
		m := modelArrange(l)
		checkSlots(t, "any ways", l, m.slots...)
		for _, s := range m.slots {
			if s.By != none {
				waited++
			}
		}
	}
	if waited < 100 {
		t.Errorf("%d passes waited", waited)
	}
}

// P8.5: a start that is less than the limit and what was waited is in time.
func TestInTime(t *testing.T) {
	l := passes(lane(0, 0, 0, 10, 5), lane(0, 1, 9, 12, 6), lane(0, 0, 0, 12, 5), lane(0, 1, 9, 30, 5), lane(0, 0, 0, 28, 5))
	checkSlots(t, "in time", l, slot(18, 1), slot(12, none), slot(23, none), slot(30, none), slot(35, 3))
	if w, e := double.Waited(l); w != [2]int64{8 + 7, 0} || e != api.OK {
		t.Errorf("Waited: %v, error %d", w, e)
	}
	for _, x := range []struct {
		limits [2]int64
		want   [2]int
	}{
		{[2]int64{0, 0}, [2]int{0, 0}},
		{[2]int64{10, 12}, [2]int{0, 0}},
		{[2]int64{11, 13}, [2]int{1, 1}},
		{[2]int64{15, 30}, [2]int{1, 1}},
		{[2]int64{16, 31}, [2]int{2, 2}},
		{[2]int64{20, 100}, [2]int{2, 2}},
		{[2]int64{21, 0}, [2]int{3, 0}},
		{[2]int64{api.MaxClock, api.MaxClock}, [2]int{3, 2}},
	} {
		if n, e := double.InTime(l, x.limits); n != x.want || e != api.OK {
			t.Errorf("InTime with %v: %v, error %d, want %v", x.limits, n, e, x.want)
		}
	}
	// A later pass may be in time though an earlier one is not: it waited, and that time is given back.
	l = passes(lane(1, 0, 0, 10, 1), lane(0, 0, 0, 10, 5), lane(0, 1, 9, 11, 40))
	checkSlots(t, "in time later", l, slot(10, none), slot(51, 2), slot(11, none))
	if n, e := double.InTime(l, [2]int64{10, 0}); n != [2]int{} || e != api.OK {
		t.Errorf("InTime of none: %v, error %d", n, e)
	}
	l = append(l, lane(1, 0, 0, 0, 1))
	if n, e := double.InTime(l, [2]int64{12, 12}); n != [2]int{2, 1} || e != api.OK {
		t.Errorf("InTime of the first two: %v, error %d", n, e)
	}
	last := passes(lane(0, 1, 0, api.MaxClock, 1))
	if n, e := double.InTime(last, [2]int64{0, api.MaxClock}); n != [2]int{} || e != api.OK {
		t.Errorf("InTime at the limit: %v, error %d", n, e)
	}
	if n, e := double.InTime(nil, [2]int64{}); n != [2]int{} || e != api.OK {
		t.Errorf("InTime of no passes: %v, error %d", n, e)
	}
	if w, e := double.Waited(nil); w != [2]int64{} || e != api.OK {
		t.Errorf("Waited of no passes: %v, error %d", w, e)
	}
	if !slices.Equal(startsOf(mustArrange(t, last)), []int64{api.MaxClock}) {
		t.Errorf("the latest start: %v", mustArrange(t, last))
	}
}
