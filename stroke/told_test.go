package stroke_test

import (
	"math"
	"slices"
	"testing"

	"roquet/api"
	"roquet/lawn"
	"roquet/stroke"
)

// knock returns a knock of two balls.
func knock(ball, other int) api.Knock {
	return api.Knock{Tick: 5, Step: 3, Kind: api.KnockBall, Ball: ball, Other: other}
}

// P4.5: Met returns the other balls of a ball's knocks, each once, in the order of the knocks.
func TestMet(t *testing.T) {
	g := ground(5, 0)
	l := []api.Knock{
		knock(1, 2), knock(0, 4), {Kind: api.KnockPost, Ball: 0, Other: 3}, {Kind: api.KnockOut, Ball: 2},
		knock(3, 0), knock(0, 4), knock(4, 0), knock(0, 1), knock(3, 0),
	}
	for i, want := range [][]int{{4, 3, 1}, {2, 0}, {1}, {0}, {0}} {
		if met, e := stroke.Met(g, l, i); e != api.OK || !slices.Equal(met, want) {
			t.Errorf("Met of %d: %v, error %d", i, met, e)
		}
	}
	for _, l := range [][]api.Knock{nil, {}, {knock(1, 2)}, {{Kind: api.KnockPost, Ball: 0, Other: 3}}, {{Kind: api.KnockOut, Ball: 0, Other: 0}}} {
		if met, e := stroke.Met(g, l, 0); e != api.OK || len(met) != 0 {
			t.Errorf("Met by %v: %v, error %d", l, met, e)
		}
	}
}

// P4.5: the errors of Met, in their order.
func TestMetErrors(t *testing.T) {
	g := ground(3, 0)
	many := make([]api.Knock, api.MaxKnocks+1)
	bad := []api.Knock{knock(0, 3)}
	for _, x := range []struct {
		name string
		l    []api.Knock
		ball int
		want api.Errno
	}{
		{"too many knocks", many, 0, api.ErrMany},
		{"too many knocks, and no ball", many, 3, api.ErrMany},
		{"no ball", nil, 3, api.ErrRange},
		{"no ball below 0", nil, -1, api.ErrRange},
		{"no ball, and a knock of none", bad, math.MaxInt, api.ErrRange},
		{"a knock with no ball", bad, 0, api.ErrArg},
		{"a knock with no ball, of others", bad, 2, api.ErrArg},
		{"a knock of no ball", []api.Knock{knock(3, 0)}, 1, api.ErrArg},
		{"a knock with a ball below 0", []api.Knock{knock(0, -1)}, 1, api.ErrArg},
		{"a knock of a ball below 0", []api.Knock{knock(math.MinInt, 1)}, 1, api.ErrArg},
		{"twice the same ball", []api.Knock{knock(1, 1)}, 0, api.ErrArg},
		{"twice the same ball, of this one", []api.Knock{knock(0, 1), knock(0, 0)}, 0, api.ErrArg},
		{"many that are not valid", many[1:], 0, api.ErrArg},
		{"a kind that there is not", []api.Knock{{Kind: 3}}, 0, api.ErrArg},
		{"a kind below 0", []api.Knock{{Kind: -1, Ball: 0, Other: 1}}, 0, api.ErrArg},
		{"any numbers of other knocks", []api.Knock{{Kind: api.KnockPost, Ball: 9, Other: -5}, {Kind: api.KnockOut, Ball: math.MinInt, Other: 9}}, 0, api.OK},
		{"any ticks and steps", []api.Knock{{Tick: -1, Step: math.MaxInt, Kind: api.KnockBall, Ball: 1, Other: 2}}, 0, api.OK},
	} {
		if met, e := stroke.Met(g, x.l, x.ball); e != x.want || len(met) != 0 {
			t.Errorf("%s: %v, error %d, want %d", x.name, met, e, x.want)
		}
	}
	// As many knocks as there may be.
	l := slices.Repeat([]api.Knock{knock(0, 2)}, api.MaxKnocks)
	if met, e := stroke.Met(g, l, 0); e != api.OK || !slices.Equal(met, []int{2}) {
		t.Errorf("MaxKnocks knocks: %v, error %d", met, e)
	}
}

// gate has the lawn of the examples, where the hoop 0 is run along Y at (50000, 40000), and the hoop 1 along X at (30000, 100000). A ball of 2,946 stands StandOut up to 3,446 before the middle, StandIn up to 2,446 before it, and StandRun from 2,446 behind it on.
func gate(hoop int, along, across int64) api.Point {
	if hoop == 0 {
		return at(50000+across, 40000+along)
	}
	return at(30000+along, 100000+across)
}

// place is a place by a hoop.
type place struct{ along, across int64 }

// P4.6: a track runs a hoop if it gets from in it to behind it, and stays behind it.
func TestRuns(t *testing.T) {
	for _, x := range []struct {
		name  string
		track []place
		want  bool
	}{
		{"from in it", []place{{-3000, 0}, {2446, 0}}, true},
		{"from begun", []place{{2445, 0}, {2446, 0}}, true},
		{"from before it, step by step", []place{{-9000, 0}, {-3445, 0}, {0, 0}, {5000, 0}}, true},
		{"not far enough", []place{{-3000, 0}, {2445, 0}}, false},
		{"from out, too fast", []place{{-3446, 0}, {2446, 0}}, false},
		{"from behind it", []place{{2446, 0}, {9000, 0}}, false},
		{"one place", []place{{2446, 0}}, false},
		{"in it at the beginning", []place{{-3445, 0}, {2446, 0}}, true},
		{"beside the wire before", []place{{0, 3000}, {2446, 0}}, false},
		{"just beside the wire before", []place{{0, 2999}, {2446, 0}}, true},
		{"beside the wire after", []place{{0, 0}, {2446, 3000}}, false},
		{"just beside the wire after", []place{{0, 0}, {2446, -2999}}, true},
		{"comes back", []place{{0, 0}, {2446, 0}, {2445, 0}}, false},
		{"comes back, and goes on", []place{{0, 0}, {2446, 0}, {0, 0}, {5000, 0}}, true},
		{"goes away to the side", []place{{0, 0}, {2446, 0}, {2446, 30000}}, true},
		{"goes back outside", []place{{0, 0}, {2446, 0}, {2445, 30000}}, false},
		{"goes back outside, but not far", []place{{0, 0}, {2446, 0}, {9000, 9000}, {2446, -9000}}, true},
		{"goes round it", []place{{0, 0}, {0, 9000}, {9000, 9000}, {9000, 0}}, false},
		{"stands in it", []place{{0, 0}, {0, 0}, {100, 0}}, false},
		{"out in between", []place{{0, 0}, {0, 9000}, {3000, 0}}, false},
		{"backward", []place{{3000, 0}, {0, 0}, {-3000, 0}}, false},
	} {
		for hoop := range 2 {
			for _, forward := range []bool{true, false} {
				var track []api.Point
				for _, p := range x.track {
					if !forward {
						p.along = -p.along
					}
					track = append(track, gate(hoop, p.along, p.across))
				}
				if runs, e := stroke.Runs(green(0), hoop, forward, 2946, track); runs != x.want || e != api.OK {
					t.Errorf("%s: hoop %d, %v: %v, error %d", x.name, hoop, forward, runs, e)
				}
			}
		}
	}
}

// P4.6: the errors of Runs, in their order.
func TestRunsErrors(t *testing.T) {
	good := []api.Point{at(50000, 38000), at(50000, 43000)}
	long := slices.Repeat(good[:1], api.MaxRun+2)
	long[0] = at(far+1, 0)
	noHoops := green(0)
	noHoops.Hoops = nil
	noName := green(0)
	noName.Name = ""
	for _, x := range []struct {
		name  string
		l     api.Lawn
		hoop  int
		r     int64
		track []api.Point
		want  api.Errno
	}{
		{"no hoops", noHoops, 0, 0, nil, api.ErrMany},
		{"no name", noName, 9, 0, nil, api.ErrArg},
		{"no such hoop", green(0), 2, 2946, good, api.ErrRange},
		{"a hoop below 0", green(0), -1, 2946, long, api.ErrRange},
		{"no hoop at all", green(0), math.MaxInt, 2946, good, api.ErrRange},
		{"no radius", green(0), 0, 0, good, api.ErrRange},
		{"too great a radius", green(0), 0, api.MaxBall + 1, long, api.ErrRange},
		{"no radius at all", green(0), 0, math.MinInt64, good, api.ErrRange},
		{"no places", green(0), 0, 2946, nil, api.ErrRange},
		{"an empty track", green(0), 0, 2946, []api.Point{}, api.ErrRange},
		{"too many places", green(0), 0, 2946, long, api.ErrMany},
		{"a place that is none", green(0), 0, 2946, long[:2], api.ErrArg},
		{"a last place that is none", green(0), 0, 2946, append(slices.Clone(good), at(0, math.MinInt64)), api.ErrArg},
	} {
		if runs, e := stroke.Runs(x.l, x.hoop, true, x.r, x.track); e != x.want || runs {
			t.Errorf("%s: %v, error %d, want %d", x.name, runs, e, x.want)
		}
	}
	// What is at its limits, and places off the lawn, are possible.
	limit := slices.Repeat([]api.Point{at(-far, far)}, api.MaxRun+1)
	limit[3999], limit[4000] = good[0], good[1]
	if runs, e := stroke.Runs(green(0), 0, true, 2946, limit); !runs || e != api.OK {
		t.Errorf("the longest track: %v, error %d", runs, e)
	}
	for _, r := range []int64{1, api.MaxBall} {
		if _, e := stroke.Runs(green(0), 1, false, r, good); e != api.OK {
			t.Errorf("the radius %d: error %d", r, e)
		}
	}
}

// P4.6: Runs does what its definition says.
func TestRunsModel(t *testing.T) {
	r := dice(44)
	count := 0
	for range 20000 {
		l := anyLawn(r)
		hoop, forward, radius := r.Intn(len(l.Hoops)), r.Intn(2) == 0, roll(r, 500, 4000)
		h := l.Hoops[hoop]
		var track []api.Point
		for range roll(r, 1, 6) {
			track = append(track, at(h.X+roll(r, -2*h.Gap, 2*h.Gap)/roll(r, 1, 5), h.Y+roll(r, -2*h.Gap, 2*h.Gap)/roll(r, 1, 5)))
		}
		runs, e := stroke.Runs(l, hoop, forward, radius, track)
		if want := modelRuns(l, hoop, forward, radius, track); runs != want || e != api.OK {
			t.Fatalf("Runs(%v, %d, %v, %d, %v): %v, error %d", l, hoop, forward, radius, track, runs, e)
		}
		if runs {
			count++
		}
	}
	if count < 500 {
		t.Errorf("only %d runs", count)
	}
}

// modelRuns reports whether a track runs a hoop, by the definition.
func modelRuns(l api.Lawn, hoop int, forward bool, r int64, track []api.Point) bool {
	passed := false
	for k := 1; k < len(track); k++ {
		was, _ := lawn.Stand(l, hoop, forward, track[k-1], r)
		is, _ := lawn.Stand(l, hoop, forward, track[k], r)
		passed = passed || is == api.StandRun && (was == api.StandIn || was == api.StandBegun)
	}
	h, end := l.Hoops[hoop], track[len(track)-1]
	u := map[bool]int64{true: end.X - h.X, false: end.Y - h.Y}[h.Along]
	if !forward {
		u = -u
	}
	return passed && u-r >= -h.Wire
}

// P4.11: a track straight through the middle of a hoop, in steps shorter than the diameter of the ball, runs it; backward it does not.
func TestRunsStraight(t *testing.T) {
	r := dice(45)
	for range 5000 {
		l := anyLawn(r)
		hoop, forward, radius := r.Intn(len(l.Hoops)), r.Intn(2) == 0, roll(r, 1, api.MaxBall)
		h := l.Hoops[hoop]
		var track []api.Point
		for u := -radius - h.Wire - roll(r, 0, 9); ; u += roll(r, 1, 2*radius-1) {
			way := map[bool]int64{true: u, false: -u}[forward]
			track = append(track, at(h.X, h.Y+way))
			if h.Along {
				track[len(track)-1] = at(h.X+way, h.Y)
			}
			if u-radius >= -h.Wire || len(track) > api.MaxRun {
				break
			}
		}
		if len(track) > api.MaxRun {
			continue
		}
		if runs, e := stroke.Runs(l, hoop, forward, radius, track); !runs || e != api.OK {
			t.Fatalf("Runs(%v, %d, %v, %d, %v): %v, error %d", l, hoop, forward, radius, track, runs, e)
		}
		if runs, e := stroke.Runs(l, hoop, !forward, radius, track); runs || e != api.OK {
			t.Fatalf("Runs(%v, %d, %v, %d, %v), backward: %v, error %d", l, hoop, forward, radius, track, runs, e)
		}
		slices.Reverse(track)
		if runs, e := stroke.Runs(l, hoop, forward, radius, track); runs || e != api.OK {
			t.Fatalf("Runs(%v, %d, %v, %d, %v), reversed: %v, error %d", l, hoop, forward, radius, track, runs, e)
		}
	}
}
