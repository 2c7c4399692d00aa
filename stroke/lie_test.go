package stroke_test

import (
	"testing"

	"roquet/api"
	"roquet/stroke"
)

// P4.2: all balls lie where they are put, and all else is 0.
func TestLie(t *testing.T) {
	g := ground(3, 100)
	places := []api.Point{at(0, 0), at(100000, 200000), at(50000, 100000)}
	s, e := stroke.Lie(g, places)
	if e != api.OK || !sameState(s, state(ball{at: places[0]}, ball{at: places[1]}, ball{at: places[2]})) {
		t.Errorf("Lie: %v, error %d", s, e)
	}
	if e := stroke.CheckState(g, s); e != api.OK {
		t.Errorf("what lies is not valid: error %d", e)
	}
	if still, e := stroke.Still(g, s); !still || e != api.OK {
		t.Errorf("what lies is not still: %v, error %d", still, e)
	}
}

// P4.2: the errors of places.
func TestLieErrors(t *testing.T) {
	good := at(50000, 60000)
	for _, x := range []struct {
		places []api.Point
		want   api.Errno
	}{
		{nil, api.ErrEqual},
		{[]api.Point{good}, api.ErrEqual},
		{[]api.Point{good, good, good}, api.ErrEqual},
		{[]api.Point{at(-1, 0)}, api.ErrEqual},
		{[]api.Point{good, good}, api.OK},
		{[]api.Point{good, at(-1, 0)}, api.ErrArg},
		{[]api.Point{at(0, -1), good}, api.ErrArg},
		{[]api.Point{at(100001, 0), good}, api.ErrArg},
		{[]api.Point{good, at(0, 200001)}, api.ErrArg},
		{[]api.Point{good, at(far+1, 0)}, api.ErrArg},
		{[]api.Point{good, at(badNumbers()[0], badNumbers()[1])}, api.ErrArg},
	} {
		s, e := stroke.Lie(ground(2, 100), x.places)
		if e != x.want || e != api.OK && !isZero(s) {
			t.Errorf("Lie(%v): %v, error %d, want %d", x.places, s, e, x.want)
		}
	}
}

// P4.2: a state is still if no ball has a momentum; rests do not matter.
func TestStill(t *testing.T) {
	g := ground(2, 100)
	for _, x := range []struct {
		change func(s *api.State)
		want   bool
	}{
		{func(s *api.State) {}, true},
		{func(s *api.State) { s.Motions[0].M = at(1, 0) }, false},
		{func(s *api.State) { s.Motions[1].M = at(0, -1) }, false},
		{func(s *api.State) { s.Motions[1].Rest = at(7, -7) }, true},
		{func(s *api.State) { s.Out[0], s.Flies, s.Tick, s.Who = true, 8, 4000, 1 }, true},
	} {
		s := with(state(ball{at: at(50000, 60000)}, ball{at: at(80000, 60000)}), x.change)
		if still, e := stroke.Still(g, s); still != x.want || e != api.OK {
			t.Errorf("Still(%v): %v, error %d", s, still, e)
		}
	}
}

// P4.2: Total is the sum of all momenta.
func TestTotal(t *testing.T) {
	g := ground(8, 100)
	s := state(make([]ball, 8)...)
	if sum, e := stroke.Total(g, s); sum != at(0, 0) || e != api.OK {
		t.Errorf("Total of balls that are still: %v, error %d", sum, e)
	}
	s.Motions[0].M, s.Motions[3].M, s.Motions[7].M = at(5, -7), at(-8, -1), at(1, 2)
	if sum, e := stroke.Total(g, s); sum != at(-2, -6) || e != api.OK {
		t.Errorf("Total: %v, error %d", sum, e)
	}
	for i := range s.Motions {
		s.Motions[i].M = at(fast, -fast)
	}
	if sum, e := stroke.Total(g, s); sum != at(8*fast, -8*fast) || e != api.OK {
		t.Errorf("Total of the greatest momenta: %v, error %d", sum, e)
	}
}
