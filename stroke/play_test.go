package stroke_test

import (
	"math"
	"testing"

	"roquet/api"
	"roquet/stroke"
)

// leaning returns a ground and a state in which a ball leans on the peg, too slowly to get away from it: each step has a knock with a post, so that a tick has 16.
func leaning() (api.Ground, api.State) {
	return ground(1, 0), state(ball{at(50000-4146, 100000), at(1, 0)})
}

// P4.4: Play does ticks until all is still, or until so many were done.
func TestPlayUntilStill(t *testing.T) {
	g := ground(2, 10000)
	s := state(ball{at(50000, 60000), at(0, 200000)}, ball{at: at(20000, 20000)})
	for _, x := range []struct {
		ticks, done int
		at, m       api.Point
	}{
		{0, 0, at(50000, 60000), at(0, 200000)},
		{1, 1, at(50000, 60106), at(0, 190000)},
		{2, 2, at(50000, 60206), at(0, 180000)},
		{19, 19, at(50000, 61056), at(0, 10000)},
		{20, 20, at(50000, 61056), at(0, 0)},
		{21, 20, at(50000, 61056), at(0, 0)},
		{api.MaxRun, 20, at(50000, 61056), at(0, 0)},
	} {
		next, knocks := mustPlay(t, g, s, x.ticks)
		if next.Tick != x.done || next.Motions[0].At != x.at || next.Motions[0].M != x.m || len(knocks) != 0 {
			t.Errorf("%v: %v, %v", x, next, knocks)
		}
	}
}

// P4.4: a still state has nothing to play, even if it has no tick any more; what flies on does not matter.
func TestPlayStill(t *testing.T) {
	s := state(ball{at: at(50000, 60000)}, ball{at: at(50000, 65892)})
	s.Tick, s.Flies, s.Out[1] = api.MaxRun, 5, true
	for _, ticks := range []int{0, 1, api.MaxRun} {
		next, knocks := mustPlay(t, sloping(2, api.Cell{DX: 5}), s, ticks)
		if !sameState(next, s) || len(knocks) != 0 {
			t.Errorf("%d ticks: %v, %v", ticks, next, knocks)
		}
	}
}

// P4.4: the ticks go on from the number of the state on, and end at the last one.
func TestPlayLastTicks(t *testing.T) {
	g := ground(1, 0)
	s := state(ball{at(50000, 60000), at(1, 0)})
	s.Tick = api.MaxRun - 2
	if next, _ := mustPlay(t, g, s, 2); next.Tick != api.MaxRun {
		t.Errorf("%v", next)
	}
	next, knocks, e := stroke.Play(g, s, 3)
	if e != api.ErrRange || !isZero(next) || len(knocks) != 0 {
		t.Errorf("%v, %v, error %d", next, knocks, e)
	}
	s.Tick = 0
	if next, _ := mustPlay(t, g, s, api.MaxRun); next.Tick != api.MaxRun || next.Motions[0].Rest != at(64000-2*unit, 0) || next.Motions[0].At != at(50002, 60000) {
		t.Errorf("the longest run: %v", next)
	}
}

// P4.4, P4.5: the error of ticks.
func TestTicksErrors(t *testing.T) {
	still := state(ball{at: at(50000, 60000)})
	for _, s := range []api.State{still, with(still, func(s *api.State) { s.Motions[0].M = at(1, 0) })} {
		for _, ticks := range []int{-1, 4001, math.MaxInt, math.MinInt} {
			next, knocks, e := stroke.Play(ground(1, 0), s, ticks)
			if e != api.ErrRange || !isZero(next) || len(knocks) != 0 {
				t.Errorf("Play, %d ticks: %v, %v, error %d", ticks, next, knocks, e)
			}
			if track, e := stroke.Track(ground(1, 0), s, 0, ticks); e != api.ErrRange || len(track) != 0 {
				t.Errorf("Track, %d ticks: %v, error %d", ticks, track, e)
			}
		}
	}
}

// P4.4, P4.5: a run may have MaxKnocks knocks, but not more, however it comes by them.
func TestPlayErrMany(t *testing.T) {
	g, s := leaning()
	if _, knocks := mustPlay(t, g, s, 256); len(knocks) != api.MaxKnocks {
		t.Fatalf("%d knocks", len(knocks))
	}
	if _, e := stroke.Track(g, s, 0, 256); e != api.OK {
		t.Errorf("Track: error %d", e)
	}
	for _, ticks := range []int{257, api.MaxRun} {
		next, knocks, e := stroke.Play(g, s, ticks)
		if e != api.ErrMany || !isZero(next) || len(knocks) != 0 {
			t.Errorf("Play, %d ticks: %v, %d knocks, error %d", ticks, next, len(knocks), e)
		}
		if track, e := stroke.Track(g, s, 0, ticks); e != api.ErrMany || len(track) != 0 {
			t.Errorf("Track, %d ticks: %v, error %d", ticks, track, e)
		}
	}
	// A single one more is too many.
	g.Balls = append(g.Balls, g.Balls[0])
	s = state(ball{at(50000-4146, 100000), at(1, 0)}, ball{at(20000, 100), at(0, -unit)})
	if _, _, e := stroke.Play(g, s, 256); e != api.ErrMany {
		t.Errorf("Play, a ball more that leaves: error %d", e)
	}
	if _, e := stroke.Track(g, s, 0, 256); e != api.ErrMany {
		t.Errorf("Track, a ball more that leaves: error %d", e)
	}
	if _, knocks, e := stroke.Play(g, s, 255); e != api.OK || len(knocks) != 255*16+1 {
		t.Errorf("Play, a ball more that leaves: %d knocks, error %d", len(knocks), e)
	}
}

// P4.4: the knocks of earlier runs do not count.
func TestPlayErrManyAnew(t *testing.T) {
	g, s := leaning()
	half, _ := mustPlay(t, g, s, 256)
	if _, knocks := mustPlay(t, g, half, 256); len(knocks) != api.MaxKnocks || knocks[0].Tick != 256 {
		t.Errorf("%d knocks, the first one %v", len(knocks), knocks[0])
	}
}

// P4.4: the error that comes first ends a run: too many knocks, or a tick that goes wrong.
func TestPlayFirstError(t *testing.T) {
	g, s := leaning()
	s.Tick = api.MaxRun - 256
	if _, _, e := stroke.Play(g, s, 257); e != api.ErrRange {
		t.Errorf("no tick is left: error %d", e)
	}
	s.Tick = api.MaxRun - 257
	if _, _, e := stroke.Play(g, s, 258); e != api.ErrMany {
		t.Errorf("too many knocks: error %d", e)
	}
}

// P4.4, P4.5: Play and Track do tick by tick what the definition says.
func TestPlayModel(t *testing.T) {
	r := dice(43)
	errors := map[api.Errno]int{}
	for range 150 {
		g := anyGround(r)
		s := anyState(r, g)
		s.Tick = int(roll(r, 0, 3000))
		if r.Intn(8) == 0 {
			s.Tick = int(roll(r, 3900, api.MaxRun))
		}
		ticks := int(roll(r, 0, 300))
		next, knocks, e := stroke.Play(g, s, ticks)
		m, tracks, want := played(g, s, ticks)
		if e != want || !sameState(next, m.s) || !sameList(knocks, m.knocks) {
			t.Fatalf("Play(%v, %v, %d): %v, %v, error %d, want %v, %v, error %d", g, s, ticks, next, knocks, e, m.s, m.knocks, want)
		}
		for i := range g.Balls {
			if track, e := stroke.Track(g, s, i, ticks); e != want || !sameList(track, tracks[i]) {
				t.Fatalf("Track(%v, %v, %d, %d): %v, error %d, want %v, error %d", g, s, i, ticks, track, e, tracks[i], want)
			}
		}
		errors[e]++
	}
	if errors[api.OK] < 50 || errors[api.ErrOver] < 5 || errors[api.ErrRange] < 2 {
		t.Errorf("too few runs, or errors: %v", errors)
	}
}

// played returns the model after some ticks, the tracks of all balls, and the error.
func played(g api.Ground, s api.State, ticks int) (*model, [][]api.Point, api.Errno) {
	m := modelOf(g, s)
	tracks := make([][]api.Point, len(g.Balls))
	look := func() {
		for i := range tracks {
			tracks[i] = append(tracks[i], m.s.Motions[i].At)
		}
	}
	look()
	for range ticks {
		moving := false
		for i := range g.Balls {
			moving = moving || m.moves(i)
		}
		if !moving {
			break
		}
		e := m.tick()
		if e == api.OK && len(m.knocks) > api.MaxKnocks {
			e = api.ErrMany
		}
		if e != api.OK {
			return &model{}, make([][]api.Point, len(g.Balls)), e
		}
		look()
	}
	return m, tracks, api.OK
}
