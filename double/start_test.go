package double_test

import (
	"math/rand"
	"slices"
	"testing"

	"roquet/api"
	"roquet/double"
)

// P8.3: a pass is ready when it is asked for, or when the one before it of its game ends.
func TestReady(t *testing.T) {
	most := int64(2 * api.MaxClock)
	for _, x := range []struct {
		name   string
		l      []api.Pass
		starts []int64
		want   []int64
	}{
		{"no passes", nil, nil, nil},
		{"one", passes(lane(0, 0, 0, 7, 5)), []int64{9}, []int64{7}},
		{"one that starts too early", passes(lane(0, 1, 0, 7, 5)), []int64{0}, []int64{7}},
		{"behind each other", passes(lane(0, 0, 0, 7, 5), lane(0, 0, 0, 7, 5)), []int64{9, 20}, []int64{7, 14}},
		{"asked for when the one before it ends", passes(lane(0, 0, 0, 7, 5), lane(0, 0, 0, 14, 5)), []int64{9, 20}, []int64{7, 14}},
		{"asked for later", passes(lane(0, 0, 0, 7, 5), lane(0, 0, 0, 15, 5)), []int64{9, 20}, []int64{7, 15}},
		{"of two games", passes(lane(0, 0, 0, 7, 5), lane(0, 1, 0, 1, 5), lane(0, 1, 0, 2, 5), lane(0, 0, 0, 3, 5)), []int64{10, 20, 30, 40}, []int64{7, 1, 25, 15}},
		{"the one before, not the latest one", passes(lane(0, 0, 0, 0, 5), lane(0, 0, 0, 0, 5), lane(0, 0, 0, 0, 5)), []int64{50, 20, 25}, []int64{0, 55, 25}},
		{"not in the order of their times", passes(lane(0, 1, 0, 90, 5), lane(0, 1, 0, 3, 5)), []int64{2, 1}, []int64{90, 7}},
		{"the greatest start", passes(lane(0, 1, 0, 0, 4096), lane(0, 1, 0, api.MaxClock, 1)), []int64{most, most}, []int64{0, most + 4096}},
	} {
		if ready := mustReady(t, x.l, x.starts); !slices.Equal(ready, x.want) {
			t.Errorf("%s: Ready(%v, %v): %v, want %v", x.name, x.l, x.starts, ready, x.want)
		}
	}
}

// P8.3: starts that are right, that are too early, and that are in the way of each other.
func TestCheckStarts(t *testing.T) {
	own, other := lane(0, 0, 0, 10, 5), lane(0, 1, 0, 10, 5)
	aside := lane(1, 1, 0, 10, 5)
	most := int64(2 * api.MaxClock)
	for _, x := range []struct {
		name   string
		l      []api.Pass
		starts []int64
		want   int
		e      api.Errno
	}{
		{"no passes", nil, nil, 0, api.OK},
		{"one, when it is ready", passes(own), []int64{10}, 1, api.OK},
		{"one, later", passes(own), []int64{11}, 1, api.OK},
		{"one, as late as may be", passes(own), []int64{most}, 1, api.OK},
		{"one, too early", passes(own), []int64{9}, 0, api.ErrLate},
		{"behind each other", passes(own, own), []int64{10, 15}, 2, api.OK},
		{"behind each other, too early", passes(own, own), []int64{10, 14}, 1, api.ErrLate},
		{"the other way round", passes(own, own), []int64{15, 10}, 1, api.ErrLate},
		{"the other game's, behind", passes(own, other), []int64{10, 15}, 2, api.OK},
		{"the other game's, before", passes(own, other), []int64{15, 10}, 2, api.OK},
		{"the other game's, with the last second", passes(own, other), []int64{10, 14}, 1, api.ErrRule},
		{"the other game's, with the first second", passes(own, other), []int64{14, 10}, 1, api.ErrRule},
		{"the other game's, with all seconds", passes(other, own), []int64{10, 10}, 1, api.ErrRule},
		{"a short one within a long one", passes(lane(0, 0, 0, 0, 100), lane(0, 1, 0, 50, 1)), []int64{0, 50}, 1, api.ErrRule},
		{"a long one around a short one", passes(lane(0, 1, 0, 50, 1), lane(0, 0, 0, 0, 100)), []int64{50, 0}, 1, api.ErrRule},
		{"a long one behind a short one", passes(lane(0, 1, 0, 50, 1), lane(0, 0, 0, 0, 100)), []int64{50, 51}, 2, api.OK},
		{"the other game's, aside", passes(own, aside), []int64{10, 10}, 2, api.OK},
		{"the first of several that are too early", passes(own, other, own, other), []int64{10, 15, 14, 3}, 2, api.ErrLate},
		{"too early, behind one in the way", passes(own, other, own), []int64{10, 10, 14}, 2, api.ErrLate},
		{"the first of several in the way", passes(own, other, own, other), []int64{10, 20, 20, 25}, 2, api.ErrRule},
		{"in the way of one that is not the one before", passes(own, aside, lane(0, 0, 0, 10, 5), lane(0, 1, 0, 10, 5), aside), []int64{30, 10, 40, 31, 40}, 3, api.ErrRule},
		{"in the way of a later one", passes(other, own, own), []int64{20, 10, 20}, 2, api.ErrRule},
		{"all right", passes(own, aside, own, other, other), []int64{10, 10, 15, 20, 25}, 5, api.OK},
	} {
		if n, e := double.CheckStarts(x.l, x.starts); n != x.want || e != x.e {
			t.Errorf("%s: CheckStarts(%v, %v): %d, error %d, want %d, error %d", x.name, x.l, x.starts, n, e, x.want, x.e)
		}
	}
}

// anyStarts returns starts that are often right, and otherwise wrong at a few places.
func anyStarts(r *rand.Rand, l []api.Pass) []int64 {
	var ends [2]int64
	var last int64
	var starts []int64
	for _, p := range l {
		s := max(p.Asked, ends[p.Game], last-r.Int63n(3)) + r.Int63n(3)
		if r.Intn(15) == 0 {
			s = max(s-r.Int63n(9), 0)
		}
		starts = append(starts, s)
		ends[p.Game] = s + p.Long
		last = max(last, ends[p.Game])
	}
	return starts
}

// modelCheckStarts looks for the first start that is wrong.
func modelCheckStarts(l []api.Pass, starts []int64) (int, api.Errno) {
	m := &model{l: l, starts: map[int]int64{}, met: map[[2]int]bool{}}
	for i := range l {
		m.starts[i] = starts[i]
	}
	for i := range l {
		if starts[i] < m.readyAt(i) {
			return i, api.ErrLate
		}
	}
	for i := range l {
		for k := range i {
			if m.meet(i, k) && together(l[i], starts[i], l[k], starts[k]) {
				return i, api.ErrRule
			}
		}
	}
	return len(l), api.OK
}

// P8.3: the times when passes are ready, and the first wrong start, of any passes.
func TestAnyStarts(t *testing.T) {
	r := dice(84)
	count := map[api.Errno]int{}
	for k := range 3000 {
		l := sheets()[k%6].anyPasses(r)
		l = l[:r.Intn(len(l)+1)]
		starts := anyStarts(r, l)
		m := &model{l: l, starts: map[int]int64{}}
		for i := range l {
			m.starts[i] = starts[i]
		}
		for i, ready := range mustReady(t, l, starts) {
			if ready != m.readyAt(i) {
				t.Errorf("Ready(%v, %v): %d for %d, want %d", l, starts, ready, i, m.readyAt(i))
			}
		}
		want, wantError := modelCheckStarts(l, starts)
		count[wantError]++
		if n, e := double.CheckStarts(l, starts); n != want || e != wantError {
			t.Errorf("CheckStarts(%v, %v): %d, error %d, want %d, error %d", l, starts, n, e, want, wantError)
		}
	}
	for _, e := range []api.Errno{api.OK, api.ErrLate, api.ErrRule} {
		if count[e] < 300 {
			t.Errorf("the error %d came %d times", e, count[e])
		}
	}
}
