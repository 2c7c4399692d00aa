package lawn_test

import (
	"testing"

	"roquet/api"
	"roquet/lawn"
)

// P2.6: the place of the example, the corners, and which way is looked at first.
func TestPut(t *testing.T) {
	l := green()
	for _, x := range []struct {
		p      api.Point
		r      int64
		others []api.Disc
		want   api.Point
	}{
		{at(1000, 70000), ball, []api.Disc{disc(5000, 70000, ball)}, at(5000, 64108)},
		{at(5000, 70000), ball, []api.Disc{disc(5000, 70000, ball)}, at(5000, 64108)}, // a point on the line is its own spot
		{at(1000, 70000), ball, nil, at(5000, 70000)},
		{at(1000, 70000), ball, []api.Disc{disc(5000+2*ball, 70000, ball)}, at(5000, 70000)}, // just as far as both radii
		{at(-far, far), ball, nil, at(5000, 195000)},
		{at(70000, 1000), ball, []api.Disc{disc(70000, 5000, ball)}, at(70000+2*ball, 5000)},
		{at(97000, 70000), ball, []api.Disc{disc(95000, 70000, ball)}, at(95000, 70000+2*ball)},
		{at(70000, 199000), ball, []api.Disc{disc(70000, 195000, ball)}, at(70000-2*ball, 195000)},
		// The place before the spot is taken if it is nearer than the one after it.
		{at(70000, 1000), ball, []api.Disc{disc(70001, 5000, ball)}, at(70001-2*ball, 5000)},
		{at(70000, 1000), ball, []api.Disc{disc(69999, 5000, ball)}, at(69999+2*ball, 5000)},
		// Round the corner of the places 0 and 559,999.
		{at(0, 0), ball, []api.Disc{disc(5000, 5000, ball)}, at(5000+2*ball, 5000)},
		{at(0, 0), ball, []api.Disc{disc(5001, 5000, ball), disc(5000+2*ball, 5000, ball)}, at(5000, 5000+2*ball)},
		{at(0, 6000), 1000, []api.Disc{disc(5000, 6000, 1000)}, at(5000, 8000)},
		{at(0, 6000), 1000, []api.Disc{disc(5000, 6000, 1000), disc(5000, 8000, 1000)}, at(6733, 5000)}, // 1,000 and 1,733 are more than 2,000 away
		// A post does not matter.
		{at(46500, 0), ball, nil, at(46500, 5000)},
	} {
		if got, e := lawn.Put(l, x.p, x.r, x.others); got != x.want || e != api.OK {
			t.Errorf("Put at %v by %d with %v: %v, error %d", x.p, x.r, x.others, got, e)
		}
	}
	wired := with(green(), func(l *api.Lawn) { l.Peg.At = at(70000, 5000) })
	if got, e := lawn.Put(wired, at(70000, 0), ball, nil); got != at(70000, 5000) || e != api.OK {
		t.Errorf("Put at the peg: %v, error %d", got, e)
	}
}

// P2.6: a point within the yard line is not put on it.
func TestPutNone(t *testing.T) {
	for _, p := range []api.Point{at(5001, 5001), at(50000, 100000), at(94999, 194999), at(5001, 70000), at(70000, 194999)} {
		if got, e := lawn.Put(green(), p, ball, []api.Disc{disc(5000, 5000, ball)}); got != (api.Point{}) || e != api.ErrNone {
			t.Errorf("Put at %v: %v, error %d", p, got, e)
		}
	}
}

// P2.6: on the smallest yard line a great ball in the middle leaves no place, or just the corners.
func TestPutPlan(t *testing.T) {
	l := small()
	const mid, low, high = api.MinSide / 2, api.MinSide / 4, api.MinSide - api.MinSide/4
	middle := []api.Disc{disc(mid, mid, api.MaxBall)}
	for _, x := range []struct {
		p      api.Point
		r      int64
		others []api.Disc
		want   api.Point
		e      api.Errno
	}{
		// A corner is 23,170.47 away from the middle.
		{at(0, 0), 23171 - api.MaxBall, middle, at(0, 0), api.ErrPlan},
		{at(mid, 0), api.MaxBall, middle, at(0, 0), api.ErrPlan},
		{at(0, 0), 23170 - api.MaxBall, middle, at(low, low), api.OK},
		{at(mid, 0), 23170 - api.MaxBall, middle, at(high, low), api.OK},
		{at(mid-1, 0), 23170 - api.MaxBall, middle, at(low, low), api.OK},
		// Just the corner opposite is free, which is the last place that is looked at.
		{at(0, 0), 23173 - api.MaxBall, []api.Disc{disc(mid-2, mid-2, api.MaxBall)}, at(high, high), api.OK},
		{at(0, 0), 23174 - api.MaxBall, []api.Disc{disc(mid-2, mid-2, api.MaxBall)}, at(0, 0), api.ErrPlan},
	} {
		if got, e := lawn.Put(l, x.p, x.r, x.others); got != x.want || e != x.e {
			t.Errorf("Put at %v by %d with %v: %v, error %d", x.p, x.r, x.others, got, e)
		}
	}
}

// P2.6, P2.12: Put by the definition, on a walk round the yard line; without others it is the spot.
func TestPutDefined(t *testing.T) {
	r := dice()
	wide := with(small(), func(l *api.Lawn) { l.Wide, l.Yard = api.MinSide+999, 9000 })
	for _, l := range []api.Lawn{small(), wide} {
		places := walked(l)
		n := len(places)
		numbers := map[api.Point]int{}
		for k, p := range places {
			numbers[p] = k
		}
		for range 60 {
			spot := places[r.Intn(n)]
			p := outward(l, spot, roll(r, 0, 5000))
			var others []api.Disc
			for range r.Intn(api.MaxOthers + 1) {
				others = append(others, api.Disc{At: near(r, spot, 15000), R: roll(r, 1, 4000)})
			}
			size := roll(r, 1, 4000)
			got, e := lawn.Put(l, p, size, others)
			if want, ok := putBy(places, numbers[spot], size, others); got != want || (e == api.OK) != ok {
				t.Fatalf("Put at %v by %d with %v: %v, error %d, not %v", p, size, others, got, e, want)
			}
			if len(touchedOf(got, size, others)) != 0 {
				t.Errorf("Put at %v by %d with %v: %v, where it touches something", p, size, others, got)
			}
			if got, e := lawn.Put(l, p, size, nil); got != spot || e != api.OK {
				t.Errorf("Put at %v without others: %v, error %d", p, got, e)
			}
		}
	}
}

// outward returns a point whose spot is p, n away from the yard line.
func outward(l api.Lawn, p api.Point, n int64) api.Point {
	switch {
	case p.Y == l.Yard:
		p.Y -= n
	case p.Y == l.Long-l.Yard:
		p.Y += n
	case p.X == l.Yard:
		p.X -= n
	default:
		p.X += n
	}
	return p
}

// touchedOf returns, by the definition, which of the others a ball touches at p.
func touchedOf(p api.Point, r int64, others []api.Disc) []api.Disc {
	var l []api.Disc
	for _, d := range others {
		if square(p, d.At) < (r+d.R)*(r+d.R) {
			l = append(l, d)
		}
	}
	return l
}

// putBy returns, by the definition, where a ball is put from the place k on, and whether there is such a place.
func putBy(places []api.Point, k int, r int64, others []api.Disc) (api.Point, bool) {
	n := len(places)
	for t := range n/2 + 1 {
		for _, p := range []api.Point{places[(k+t)%n], places[(k-t+n)%n]} {
			if len(touchedOf(p, r, others)) == 0 {
				return p, true
			}
		}
	}
	return api.Point{}, false
}

// P2.6: a row of the greatest balls on the longest yard line is passed by.
func TestPutFar(t *testing.T) {
	l := with(largest(), func(l *api.Lawn) { l.Yard = 0 })
	const both, mid = 2 * api.MaxBall, far / 2
	var others []api.Disc
	for k := range int64(api.MaxOthers) {
		// The places between two of them are less than both radii away from one of them.
		others = append(others, disc(mid+(2*k-11)*(both-1), 0, api.MaxBall))
	}
	want := at(mid+11*(both-1)+both, 0)
	if got, e := lawn.Put(l, at(mid, -1), api.MaxBall, others); got != want || e != api.OK {
		t.Errorf("Put in a row of balls: %v, error %d, not %v", got, e, want)
	}
}
