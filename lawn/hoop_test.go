package lawn_test

import (
	"math"
	"slices"
	"testing"

	"roquet/api"
	"roquet/lawn"
)

// P2.4: a hoop passes a ball that is as wide as its gap.
func TestPasses(t *testing.T) {
	for _, x := range []struct {
		l    api.Lawn
		hoop int
		r    int64
		want bool
	}{
		{green(), 0, ball, true}, {green(), 0, 3000, true}, {green(), 0, 3001, false}, {green(), 1, 3000, true}, {green(), 1, 3001, false},
		{small(), 0, 1, true}, {small(), 0, 2, false}, {small(), 0, api.MaxBall, false}, {largest(), 11, api.MaxBall, true},
	} {
		if got, e := lawn.Passes(x.l, x.hoop, x.r); got != x.want || e != api.OK {
			t.Errorf("Passes of %d by the hoop %d: %v, error %d", x.r, x.hoop, got, e)
		}
	}
}

// P2.4: how a ball stands to the hoops of the example.
func TestStandGreen(t *testing.T) {
	for _, x := range []struct {
		y    int64
		want int
	}{
		{36000, api.StandOut}, {37000, api.StandIn}, {38000, api.StandBegun}, {42446, api.StandRun}, {42445, api.StandBegun},
		{36554, api.StandOut}, {36555, api.StandIn}, {37554, api.StandIn}, {37555, api.StandBegun}, {far - 40000, api.StandRun}, {80000 - far, api.StandOut},
	} {
		if got := standOf(t, green(), 0, true, at(50000, x.y), ball); got != x.want {
			t.Errorf("Stand at Y %d: %d", x.y, got)
		}
		u := x.y - 40000
		if got := standOf(t, green(), 0, false, at(50000, 40000-u), ball); got != x.want {
			t.Errorf("Stand backward at Y %d: %d", 40000-u, got)
		}
		if got := standOf(t, green(), 1, true, at(30000+u, 100000), ball); got != x.want {
			t.Errorf("Stand along X at %d: %d", 30000+u, got)
		}
		if got := standOf(t, green(), 1, false, at(30000-u, 100000), ball); got != x.want {
			t.Errorf("Stand along X backward at %d: %d", 30000-u, got)
		}
	}
}

// P2.4: a ball whose middle is not between the wires is out of the hoop.
func TestStandBeside(t *testing.T) {
	for _, off := range []int64{-3000, 3000, -3001, 3001, -2999, 2999} {
		inside := off == 2999 || off == -2999
		for _, y := range []int64{36000, 37000, 38000, 42446, 199999} {
			want := api.StandOut
			if inside {
				want = standOf(t, green(), 0, true, at(50000, y), ball)
			}
			if got := standOf(t, green(), 0, true, at(50000+off, y), ball); got != want {
				t.Errorf("Stand at %d beside the middle, at Y %d: %d", off, y, got)
			}
			if got := standOf(t, green(), 1, true, at(y-10000, 100000+off), ball); got != want {
				t.Errorf("Stand along X at %d beside the middle, at %d: %d", off, y-10000, got)
			}
		}
	}
}

// standBy returns, by the definition, how a ball stands to a hoop.
func standBy(h api.Hoop, forward bool, p api.Point, r int64) int {
	u, v := p.Y-h.Y, p.X-h.X
	if h.Along {
		u, v = p.X-h.X, p.Y-h.Y
	}
	if !forward {
		u = -u
	}
	if v < 0 {
		v = -v
	}
	between := v < h.Gap/2
	if u-r >= -h.Wire && between {
		return api.StandRun
	}
	if u+r > h.Wire && between {
		return api.StandBegun
	}
	if u+r > -h.Wire && between {
		return api.StandIn
	}
	return api.StandOut
}

// P2.4: Stand by the definition, also for balls that are smaller than the wires.
func TestStandDefined(t *testing.T) {
	r := dice()
	var seen [4]int
	for range 6000 {
		l := anyLawn(r)
		hoop := r.Intn(len(l.Hoops))
		h := l.Hoops[hoop]
		p, size, forward := near(r, at(h.X, h.Y), 3000), roll(r, 1, 3000), r.Intn(2) == 0
		want := standBy(h, forward, p, size)
		seen[want]++
		if got := standOf(t, l, hoop, forward, p, size); got != want {
			t.Errorf("Stand to %v, forward %v, at %v by %d: %d, not %d", h, forward, p, size, got, want)
		}
	}
	if slices.Min(seen[:]) < 100 {
		t.Errorf("too few balls stood in some way: %v", seen)
	}
}

// P2.4: there is no hoop before the first one, or after the last one.
func TestHoopRange(t *testing.T) {
	for _, k := range []int{-1, 2, math.MaxInt64, math.MinInt64} {
		if ok, e := lawn.Passes(green(), k, 3); ok || e != api.ErrRange {
			t.Errorf("Passes of the hoop %d: %v, error %d", k, ok, e)
		}
		if n, e := lawn.Stand(green(), k, true, at(50000, 50000), 3); n != 0 || e != api.ErrRange {
			t.Errorf("Stand to the hoop %d: %d, error %d", k, n, e)
		}
	}
}

// P2.10: a ball that a hoop passes touches neither wire on its way through the middle; one that it does not pass touches both in the middle.
func TestThroughHoops(t *testing.T) {
	r := dice()
	for range 300 {
		l := anyLawn(r)
		for k, h := range l.Hoops {
			middle := at(h.X, h.Y)
			a, b := at(h.X, h.Y-roll(r, 0, 50000)), at(h.X, h.Y+roll(r, 0, 50000))
			if h.Along {
				a, b = at(h.X-roll(r, 0, 50000), h.Y), at(h.X+roll(r, 0, 50000), h.Y)
			}
			for _, size := range []int64{h.Gap / 2, h.Gap/2 + 1, roll(r, 1, 5000)} {
				passes, _ := lawn.Passes(l, k, size)
				way, here := inWayOf(t, l, a, b, size, nil), touchedBy(t, l, middle, size, nil)
				if passes && (slices.Contains(way, 2*k) || slices.Contains(way, 2*k+1)) {
					t.Errorf("a ball of %d touches %v on its way through %v", size, way, h)
				}
				if !passes && (!slices.Contains(here, 2*k) || !slices.Contains(here, 2*k+1)) {
					t.Errorf("a ball of %d touches just %v in %v", size, here, h)
				}
			}
		}
	}
}

// P2.10: a ball that goes on never stands less far.
func TestStandGoesOn(t *testing.T) {
	r := dice()
	for range 100 {
		l := anyLawn(r)
		hoop, size := r.Intn(len(l.Hoops)), roll(r, 1, 4000)
		h, off := l.Hoops[hoop], roll(r, -3000, 3000)
		for _, forward := range []bool{true, false} {
			last := api.StandOut
			for u := int64(-7000); u < 7000; u += 37 {
				along := u
				if !forward {
					along = -u
				}
				p := at(h.X+off, h.Y+along)
				if h.Along {
					p = at(h.X+along, h.Y+off)
				}
				now := standOf(t, l, hoop, forward, p, size)
				if now < last {
					t.Fatalf("a ball of %d stands %d to %v at %v after %d", size, now, h, p, last)
				}
				last = now
			}
		}
	}
}
