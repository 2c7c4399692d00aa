package club_test

import (
	"math"
	"testing"

	"roquet/api"
	"roquet/referee"
)

// bigPeg is a change by which small balls can lie behind the peg.
func bigPeg(s *api.Setup) {
	s.Ground.Lawn.Peg.R = api.MaxWire
	for i := range s.Ground.Balls {
		s.Ground.Balls[i].Radius = 1000
	}
}

// P12.4: a ball is wired if each line between the edges is cut.
func TestWired(t *testing.T) {
	l := put(spread(), 0, at(50000, 85000), 1, at(50000, 115000), 2, at(80000, 100000))
	m := mustResume(t, setupWith(bigPeg), turnOf(api.CodeShort), l)
	for _, x := range []struct {
		a, b  int
		wired bool
	}{
		{0, 1, true}, {1, 0, true}, {0, 3, true}, {3, 0, true},
		{0, 2, false}, {2, 0, false}, {1, 2, false}, {2, 1, false}, {1, 3, false}, {3, 1, false}, {2, 3, false}, {3, 2, false},
	} {
		if wired, e := m.Wired(x.a, x.b); wired != x.wired || e != api.OK {
			t.Errorf("Wired(%d, %d): %t, error %d", x.a, x.b, wired, e)
		}
	}
	// Wider balls show at the edges.
	m = mustResume(t, setupWith(func(s *api.Setup) { s.Ground.Lawn.Peg.R = 2000 }), turnOf(api.CodeShort), l)
	if wired, e := m.Wired(0, 1); wired || e != api.OK {
		t.Errorf("behind a small peg: %t, error %d", wired, e)
	}
}

// P12.4: the balls are those of the match, with their places and their radii.
func TestWiredAsReferee(t *testing.T) {
	r := dice(4)
	wired := 0
	for range 200 {
		m, x := anyMatch(t, r)
		for a := range 4 {
			for b := range 4 {
				if a == b || !x.g.In[a] || !x.g.In[b] {
					continue
				}
				one := api.Disc{At: x.at[a], R: x.s.Ground.Balls[a].Radius}
				other := api.Disc{At: x.at[b], R: x.s.Ground.Balls[b].Radius}
				_, e := referee.Cut(x.s.Ground.Lawn, one, other)
				if got, known := m.Wired(a, b); known != api.OK || got != (e == api.OK) {
					t.Errorf("Wired(%d, %d) in %v: %t, error %d, and Cut error %d", a, b, stateOf(m), got, known, e)
				}
				if e == api.OK {
					wired++
				}
			}
		}
	}
	if wired == 0 {
		t.Error("no ball was wired")
	}
}

// P12.4: what cannot be asked.
func TestWiredErrors(t *testing.T) {
	m := mustResume(t, setup(), turnOf(api.CodeShort, peggedOut(2)), put(spread(), 2, at(0, 0)))
	for _, x := range []struct {
		a, b int
		want api.Errno
	}{
		{-1, 0, api.ErrRange}, {0, -1, api.ErrRange}, {4, 0, api.ErrRange}, {0, 4, api.ErrRange}, {4, 4, api.ErrRange}, {2, 4, api.ErrRange},
		{math.MinInt, 2, api.ErrRange}, {1, math.MaxInt, api.ErrRange},
		{0, 0, api.ErrState}, {2, 2, api.ErrState}, {2, 0, api.ErrState}, {0, 2, api.ErrState},
		{0, 1, api.OK}, {3, 1, api.OK},
	} {
		if wired, e := m.Wired(x.a, x.b); wired || e != x.want {
			t.Errorf("Wired(%d, %d): %t, error %d, want %d", x.a, x.b, wired, e, x.want)
		}
	}
	m = mustNew(t, setup())
	if wired, e := m.Wired(0, 1); wired || e != api.ErrState {
		t.Errorf("Wired in a new match: %t, error %d", wired, e)
	}
}

// P12.4: balls that overlap, which a place that is rounded may bring about.
func TestWiredOverlap(t *testing.T) {
	overlaps := false
	for x := int64(1); x < 40 && !overlaps; x++ {
		m := mustResume(t, setup(), turnOf(api.CodeShort, croquetOf(1)), spread())
		taken := m.Places()[1]
		mustDo(t, m, croquet(at(taken.X+x, taken.Y+7), at(x, 7), 1))
		l := m.Places()
		dx, dy := l[0].X-l[1].X, l[0].Y-l[1].Y
		overlaps = dx*dx+dy*dy < 4*size*size
		want := api.OK
		if overlaps {
			want = api.ErrArg
		}
		for _, pair := range [][2]int{{0, 1}, {1, 0}} {
			if wired, e := m.Wired(pair[0], pair[1]); wired || e != want {
				t.Errorf("Wired(%v) at %v: %t, error %d, want %d", pair, l, wired, e, want)
			}
		}
	}
	if !overlaps {
		t.Error("no balls overlapped")
	}
	// A ring that is not on valid places.
	s := setupWith(func(s *api.Setup) { s.Ground.Lawn.Wide = far })
	m := mustResume(t, s, turnOf(api.CodeShort), put(spread(), 0, at(far, 70000)))
	if wired, e := m.Wired(0, 1); wired || e != api.ErrArg {
		t.Errorf("Wired at the end of all places: %t, error %d", wired, e)
	}
}
