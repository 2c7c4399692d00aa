package lawn_test

import (
	"math"
	"testing"

	"roquet/api"
	"roquet/lawn"
)

// walked returns the places of the yard line in order, as they are met on a walk round it.
func walked(l api.Lawn) []api.Point {
	var places []api.Point
	p := at(l.Yard, l.Yard)
	w, h := l.Wide-2*l.Yard, l.Long-2*l.Yard
	for _, side := range []struct{ x, y, n int64 }{{1, 0, w}, {0, 1, h}, {-1, 0, w}, {0, -1, h}} {
		for range side.n {
			places = append(places, p)
			p = at(p.X+side.x, p.Y+side.y)
		}
	}
	return places
}

// onLine reports, by the definition, whether a point is on the yard line of a lawn.
func onLine(l api.Lawn, p api.Point) bool {
	inside := p.X >= l.Yard && p.X <= l.Wide-l.Yard && p.Y >= l.Yard && p.Y <= l.Long-l.Yard
	return inside && (p.X == l.Yard || p.X == l.Wide-l.Yard || p.Y == l.Yard || p.Y == l.Long-l.Yard)
}

// P2.5: the spots of the example, of points off the lawn, and of points of the rectangle.
func TestSpot(t *testing.T) {
	for _, x := range []struct {
		p, want api.Point
		area    bool
	}{
		{at(1000, 70000), at(5000, 70000), true}, {at(1000, 1000), at(5000, 5000), true}, {at(6000, 70000), at(6000, 70000), false},
		{at(4999, 70000), at(5000, 70000), true}, {at(5000, 70000), at(5000, 70000), false}, {at(5000, 5000), at(5000, 5000), false},
		{at(95000, 70000), at(95000, 70000), false}, {at(95001, 70000), at(95000, 70000), true}, {at(70000, 4999), at(70000, 5000), true},
		{at(70000, 195000), at(70000, 195000), false}, {at(70000, 195001), at(70000, 195000), true}, {at(99999, 199999), at(95000, 195000), true},
		{at(0, 200000), at(5000, 195000), true}, {at(-1, 70000), at(5000, 70000), true}, {at(70000, 200001), at(70000, 195000), true},
		{at(-far, -far), at(5000, 5000), true}, {at(far, far), at(95000, 195000), true}, {at(far, -far), at(95000, 5000), true},
	} {
		if got, area, e := lawn.Spot(green(), x.p); got != x.want || area != x.area || e != api.OK {
			t.Errorf("Spot of %v: %v, %v, error %d", x.p, got, area, e)
		}
	}
	bare := with(green(), func(l *api.Lawn) { l.Yard = 0 })
	for p, area := range map[api.Point]bool{at(0, 0): false, at(100000, 200000): false, at(-1, 0): true, at(0, 200001): true} {
		if _, got, e := lawn.Spot(bare, p); got != area || e != api.OK {
			t.Errorf("Spot of %v without a yard-line area: %v, error %d", p, got, e)
		}
	}
}

// P2.5: the places of the example, and those that there are not.
func TestPlace(t *testing.T) {
	for n, want := range map[int64]api.Point{
		0: at(5000, 5000), 1: at(5001, 5000), 89999: at(94999, 5000), 90000: at(95000, 5000), 279999: at(95000, 194999),
		280000: at(95000, 195000), 369999: at(5001, 195000), 370000: at(5000, 195000), 370001: at(5000, 194999), 559999: at(5000, 5001),
	} {
		if p, e := lawn.Place(green(), n); p != want || e != api.OK {
			t.Errorf("Place of %d: %v, error %d", n, p, e)
		}
		if got, e := lawn.Number(green(), want); got != n || e != api.OK {
			t.Errorf("Number of %v: %d, error %d", want, got, e)
		}
	}
	for _, n := range []int64{-1, 560000, 560001, math.MaxInt64, math.MinInt64} {
		if p, e := lawn.Place(green(), n); p != (api.Point{}) || e != api.ErrRange {
			t.Errorf("Place of %d: %v, error %d", n, p, e)
		}
	}
	if p, e := lawn.Place(largest(), 4*far-4*(far/2)-1); p != at(far/4, far/4+1) || e != api.OK {
		t.Errorf("the last place of the largest lawn: %v, error %d", p, e)
	}
}

// P2.5: points beside the yard line, or on its lengthening, have no number.
func TestNumberNone(t *testing.T) {
	for _, p := range []api.Point{
		at(4999, 5000), at(5000, 4999), at(5001, 5001), at(95001, 5000), at(95000, 4999), at(94999, 5001), at(95000, 195001), at(95001, 195000),
		at(5000, 195001), at(4999, 195000), at(0, 0), at(50000, 100000), at(0, 5000), at(5000, 0), at(100000, 195000), at(95000, 200000), at(5000, -far), at(far, 5000), at(-far, far),
	} {
		if n, e := lawn.Number(green(), p); n != 0 || e != api.ErrNone {
			t.Errorf("Number of %v: %d, error %d", p, n, e)
		}
	}
}

// P2.11: Place and Number are each other's reverse, at all places of two lawns, one of them not square.
func TestPlacesReverse(t *testing.T) {
	for _, l := range []api.Lawn{small(), with(small(), func(l *api.Lawn) { l.Wide = api.MinSide + 4321 })} {
		places := walked(l)
		for k, want := range places {
			p, e := lawn.Place(l, int64(k))
			n, f := lawn.Number(l, want)
			if p != want || e != api.OK || n != int64(k) || f != api.OK {
				t.Fatalf("the place %d: %v, error %d, not %v, with the number %d, error %d", k, p, e, want, n, f)
			}
		}
		if _, e := lawn.Place(l, int64(len(places))); e != api.ErrRange {
			t.Errorf("the place after the last one: error %d", e)
		}
	}
}

// P2.11: the spot of a point in the area is on the yard line, nothing of the rectangle is nearer, and a spot is its own.
func TestSpots(t *testing.T) {
	r := dice()
	for range 4000 {
		l := anyLawn(r)
		p := at(roll(r, -9000, l.Wide+9000), roll(r, -9000, l.Long+9000))
		spot, area, e := lawn.Spot(l, p)
		inside := p.X >= l.Yard && p.X <= l.Wide-l.Yard && p.Y >= l.Yard && p.Y <= l.Long-l.Yard
		if e != api.OK || area == inside {
			t.Fatalf("Spot of %v: in the area %v, error %d", p, area, e)
		}
		if area && !onLine(l, spot) || !area && spot != p {
			t.Errorf("Spot of %v, in the area %v: %v", p, area, spot)
		}
		if again, area, e := lawn.Spot(l, spot); again != spot || area || e != api.OK {
			t.Errorf("Spot of the spot %v: %v, %v, error %d", spot, again, area, e)
		}
		for range 20 {
			q := at(roll(r, l.Yard, l.Wide-l.Yard), roll(r, l.Yard, l.Long-l.Yard))
			if square(p, q) < square(p, spot) {
				t.Errorf("the spot of %v is %v, but %v is nearer", p, spot, q)
			}
		}
	}
}

// square returns the square of the distance of two points.
func square(a, b api.Point) int64 {
	return (a.X-b.X)*(a.X-b.X) + (a.Y-b.Y)*(a.Y-b.Y)
}

// P2.7: the baulks of the example, their ends, and points beside them.
func TestBaulk(t *testing.T) {
	odd := with(green(), func(l *api.Lawn) { l.Wide = 100001 })
	bare := with(green(), func(l *api.Lawn) { l.Yard = 0 })
	for _, x := range []struct {
		l    api.Lawn
		p    api.Point
		want int
	}{
		{green(), at(50000, 5000), 1}, {green(), at(50001, 5000), 0}, {green(), at(50000, 195000), 2}, {green(), at(49999, 195000), 0},
		{green(), at(5000, 5000), 1}, {green(), at(4999, 5000), 0}, {green(), at(95000, 195000), 2}, {green(), at(95001, 195000), 0},
		{green(), at(5000, 195000), 0}, {green(), at(95000, 5000), 0}, {green(), at(5000, 5001), 0}, {green(), at(20000, 4999), 0},
		{green(), at(20000, 5001), 0}, {green(), at(70000, 195001), 0}, {green(), at(70000, 194999), 0}, {green(), at(0, 5000), 0}, {green(), at(100000, 195000), 0},
		{green(), at(-far, -far), 0}, {green(), at(far, far), 0},
		{odd, at(50000, 5000), 1}, {odd, at(50001, 5000), 0}, {odd, at(50001, 195000), 2}, {odd, at(50000, 195000), 0}, {odd, at(95001, 195000), 2}, {odd, at(95002, 195000), 0},
		{bare, at(0, 0), 1}, {bare, at(-1, 0), 0}, {bare, at(100000, 200000), 2}, {bare, at(100001, 200000), 0}, {bare, at(50000, 0), 1}, {bare, at(49999, 200000), 0},
	} {
		if got, e := lawn.Baulk(x.l, x.p); got != x.want || e != api.OK {
			t.Errorf("Baulk of %v on a lawn of %d with the yard %d: %d, error %d", x.p, x.l.Wide, x.l.Yard, got, e)
		}
	}
}
