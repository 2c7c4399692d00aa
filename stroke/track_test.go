package stroke_test

import (
	"math"
	"testing"

	"roquet/api"
	"roquet/stroke"
)

// P4.5: a track has the place of its ball in the state, and after each tick that is played.
func TestTrack(t *testing.T) {
	g := ground(2, 10000)
	s := state(ball{at(50000, 60000), at(0, 30000)}, ball{at: at(20000, 20000)})
	for _, x := range []struct {
		ball, ticks int
		want        []api.Point
	}{
		{0, 0, []api.Point{at(50000, 60000)}},
		{0, 1, []api.Point{at(50000, 60000), at(50000, 60011)}},
		{0, 2, []api.Point{at(50000, 60000), at(50000, 60011), at(50000, 60017)}},
		{0, 3, []api.Point{at(50000, 60000), at(50000, 60011), at(50000, 60017), at(50000, 60017)}},
		{0, 4000, []api.Point{at(50000, 60000), at(50000, 60011), at(50000, 60017), at(50000, 60017)}},
		{1, 4000, []api.Point{at(20000, 20000), at(20000, 20000), at(20000, 20000), at(20000, 20000)}},
	} {
		if track, e := stroke.Track(g, s, x.ball, x.ticks); e != api.OK || !sameList(track, x.want) {
			t.Errorf("Track of %d, %d ticks: %v, error %d", x.ball, x.ticks, track, e)
		}
	}
}

// P4.5: a ball that leaves the lawn has a track on, to where it left; one that is out has one, too.
func TestTrackOut(t *testing.T) {
	g := ground(3, 0)
	s := state(ball{at(5, 60000), at(-unit, 0)}, ball{at: at(-3000, 7)}, ball{at(20000, 20000), at(0, unit)})
	s.Out[1] = true
	for i, want := range [][]api.Point{
		{at(5, 60000), at(-1, 60000), at(-1, 60000)},
		{at(-3000, 7), at(-3000, 7), at(-3000, 7)},
		{at(20000, 20000), at(20000, 20016), at(20000, 20032)},
	} {
		if track, e := stroke.Track(g, s, i, 2); e != api.OK || !sameList(track, want) {
			t.Errorf("Track of %d: %v, error %d", i, track, e)
		}
	}
}

// P4.5: there is no such ball.
func TestTrackErrors(t *testing.T) {
	g, s := ground(2, 0), state(ball{at(5, 60000), at(-unit, 0)}, ball{at: at(20000, 20000)})
	s.Tick = api.MaxRun
	for _, i := range []int{-1, 2, math.MaxInt, math.MinInt} {
		if track, e := stroke.Track(g, s, i, 0); e != api.ErrRange || len(track) != 0 {
			t.Errorf("Track of %d: %v, error %d", i, track, e)
		}
	}
}
