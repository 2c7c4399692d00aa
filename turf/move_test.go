package turf_test

import (
	"math"
	"math/big"
	"testing"

	"roquet/api"
	"roquet/turf"
)

// P1.8: first contacts, at once, at the end, by touching, and none.
func TestFirst(t *testing.T) {
	for _, x := range []struct {
		p, v, q, w api.Point
		r, n       int64
		want       int64
		e          api.Errno
	}{
		{at(0, 0), at(100, 0), at(60, 0), at(0, 0), 20, 10, 4, api.OK},
		{at(0, 0), at(100, 0), at(60, 0), at(0, 0), 19, 10, 5, api.OK},
		{at(60, 0), at(0, 0), at(0, 0), at(100, 0), 20, 10, 4, api.OK},
		{at(0, 0), at(100, 0), at(60, 30), at(0, 0), 20, 10, 0, api.ErrNone},
		{at(0, 0), at(100, 0), at(60, 30), at(0, 0), 30, 10, 6, api.OK},
		{at(0, 0), at(100, 0), at(60, 30), at(0, 0), 29, 10, 0, api.ErrNone},
		{at(0, 0), at(100, 0), at(3, 4), at(0, 0), 5, 10, 0, api.OK},
		{at(0, 0), at(-100, 0), at(3, 4), at(0, 0), 5, 10, 0, api.OK},
		{at(0, 0), at(-100, 0), at(3, 4), at(0, 0), 4, 10, 0, api.ErrNone},
		{at(0, 0), at(100, 0), at(100, 0), at(0, 0), 0, 7, 7, api.OK},
		{at(0, 0), at(100, 0), at(101, 0), at(0, 0), 0, 7, 0, api.ErrNone},
		{at(0, 0), at(100, 0), at(50, 0), at(0, 0), 9, 1, 0, api.ErrNone}, // passed between two parts
		{at(0, 0), at(100, 0), at(50, 0), at(0, 0), 9, 2, 1, api.OK},
		{at(0, 0), at(9, 9), at(5, 0), at(9, 9), 4, 1024, 0, api.ErrNone}, // side by side
		{at(0, 0), at(10, 0), at(8, 4), at(0, 0), 4, 3, 0, api.ErrNone},   // 6 2/3 and 10 are too far away
		{at(0, 0), at(10, 0), at(8, 4), at(0, 0), 4, 5, 4, api.OK},
		{at(0, 0), at(1, 0), at(1, 0), at(0, 0), 0, 1024, 1024, api.OK},
		{at(-far, -far), at(far, far), at(far, far), at(-far, -far), 0, 1024, 1024, api.OK},
		{at(-far, -far), at(far, far), at(far, far), at(-far, -far), 2 * api.MaxRadius, 1024, 1013, api.OK},
		{at(-far, -far), at(-far, -far), at(far, far), at(far, far), 2 * api.MaxRadius, 1024, 0, api.ErrNone},
	} {
		if k, e := turf.First(x.p, x.v, x.q, x.w, x.r, x.n); k != x.want || e != x.e {
			t.Errorf("First of %v: %d, error %d", x, k, e)
		}
	}
}

// P1.8: radii and parts that are out of range.
func TestFirstRange(t *testing.T) {
	for _, x := range [][2]int64{
		{-1, 10}, {2*api.MaxRadius + 1, 10}, {5, 0}, {5, -1}, {5, api.MaxParts + 1},
		{math.MinInt64, math.MinInt64}, {math.MaxInt64, 10}, {5, math.MaxInt64},
	} {
		if k, e := turf.First(at(0, 0), at(9, 9), at(0, 0), at(0, 0), x[0], x[1]); k != 0 || e != api.ErrRange {
			t.Errorf("First with %v: %d, error %d", x, k, e)
		}
	}
	for _, x := range [][2]int64{{0, 1}, {2 * api.MaxRadius, api.MaxParts}} {
		if k, e := turf.First(at(0, 0), at(9, 9), at(0, 0), at(0, 0), x[0], x[1]); k != 0 || e != api.OK {
			t.Errorf("First with %v: %d, error %d", x, k, e)
		}
	}
}

// trueWithin tells whether both are at most r away from each other after k of n parts, found with fractions.
func trueWithin(p, v, q, w api.Point, r, k, n int64) bool {
	share := rat(k, n)
	one := along(p, plus(p, v), share)
	other := along(q, plus(q, w), share)
	x, y := minus(one.x, other.x), minus(one.y, other.y)
	return sum(times(x, x), times(y, y)).Cmp(new(big.Rat).SetInt64(r*r)) <= 0
}

// P1.14: before the first contact both are farther away than r, and at it they are not; exchanged it is the same.
func TestFirstOfAll(t *testing.T) {
	r := dice()
	found := 0
	for range 1500 {
		size := int64(1) << between(r, 2, 21)
		p, q := near(r, size), near(r, size)
		v, w := plus(near(r, size/4), at(q.X-p.X, q.Y-p.Y)), near(r, size/4)
		if r.Intn(3) == 0 {
			v = near(r, size)
		}
		radius, n := between(r, 0, min(size/4, 2*api.MaxRadius)), between(r, 1, 40)
		k, e := turf.First(p, v, q, w, radius, n)
		if k2, e2 := turf.First(q, w, p, v, radius, n); k2 != k || e2 != e {
			t.Errorf("First(%v, %v, %v, %v, %d, %d): %d, error %d, and exchanged %d, error %d", p, v, q, w, radius, n, k, e, k2, e2)
		}
		before := k
		switch {
		case e == api.ErrNone && k == 0:
			before = n + 1
		case e == api.OK && trueWithin(p, v, q, w, radius, k, n):
			found++
		default:
			t.Errorf("First(%v, %v, %v, %v, %d, %d): %d, error %d", p, v, q, w, radius, n, k, e)
		}
		for i := range before {
			if trueWithin(p, v, q, w, radius, i, n) {
				t.Errorf("First(%v, %v, %v, %v, %d, %d): %d, error %d, but %d is one", p, v, q, w, radius, n, k, e, i)
			}
		}
	}
	if found < 300 || found > 1400 {
		t.Errorf("of 1500 moves %d have a contact", found)
	}
}

// P1.9: places towards another one, beyond it, and with quotients that are halves or below 0.
func TestTowards(t *testing.T) {
	for _, x := range []struct {
		p, q api.Point
		l    int64
		want api.Point
	}{
		{at(30, 40), at(0, 0), 25, at(15, 20)},
		{at(30, 40), at(0, 0), 0, at(0, 0)},
		{at(30, 40), at(0, 0), 50, at(30, 40)},
		{at(30, 40), at(0, 0), 500, at(300, 400)}, // beyond p
		{at(-30, -40), at(0, 0), 25, at(-15, -20)},
		{at(107, 93), at(100, 69), 50, at(114, 117)},
		{at(5, 0), at(9, 0), 3, at(6, 0)},
		{at(3, 4), at(0, 0), 1, at(1, 1)}, // 0.6 and 0.8
		{at(-3, -4), at(0, 0), 1, at(-1, -1)},
		{at(3, 4), at(0, 0), 4, at(2, 3)}, // 2.4 and 3.2
		{at(-3, -4), at(0, 0), 4, at(-2, -3)},
		{at(32, 1), at(0, 0), 16, at(16, 1)}, // 0.5, as 64 times the root of 1,025 is 2,048
		{at(32, -1), at(0, 0), 16, at(16, 0)},
		{at(-1, 32), at(0, 0), 16, at(0, 16)},
		{at(1, 1), at(0, 0), 10, at(7, 7)},
		{at(1, 1), at(0, 0), far, at(2982616, 2982616)}, // by 90, not by 64 times the root of 2
		{at(far, 0), at(-far, 0), far, at(0, 0)},
		{at(far, far), at(-far, -far), far, at(-1228483, -1228483)},
		{at(1, 0), at(0, 0), far, at(far, 0)},
		{at(0, -1), at(0, 0), far, at(0, -far)},
	} {
		if p, e := turf.Towards(x.p, x.q, x.l); p != x.want || e != api.OK {
			t.Errorf("Towards(%v, %v, %d): %v, error %d", x.p, x.q, x.l, p, e)
		}
	}
}

// P1.9: the errors of Towards, in their order.
func TestTowardsErrors(t *testing.T) {
	for _, x := range []struct {
		p, q api.Point
		l    int64
		want api.Errno
	}{
		{at(9, 9), at(0, 0), -1, api.ErrRange},
		{at(9, 9), at(0, 0), far + 1, api.ErrRange},
		{at(9, 9), at(0, 0), math.MinInt64, api.ErrRange},
		{at(9, 9), at(0, 0), math.MaxInt64, api.ErrRange},
		{at(9, 9), at(9, 9), -1, api.ErrRange}, // before ErrZero
		{at(9, 9), at(9, 9), far + 1, api.ErrRange},
		{at(9, 9), at(9, 9), 0, api.ErrZero},
		{at(far, far), at(far, far), far, api.ErrZero},
		{at(far, 0), at(1, 0), far, api.ErrOver},
		{at(0, far), at(0, 1), far, api.ErrOver},
		{at(-far, 0), at(-1, 0), far, api.ErrOver},
		{at(0, -far), at(0, -1), far, api.ErrOver},
		{at(far, 5), at(far-1, 5), 2, api.ErrOver},
	} {
		if p, e := turf.Towards(x.p, x.q, x.l); p != (api.Point{}) || e != x.want {
			t.Errorf("Towards(%v, %v, %d): %v, error %d", x.p, x.q, x.l, p, e)
		}
	}
	if p, e := turf.Towards(at(far, 5), at(far-1, 5), 1); p != at(far, 5) || e != api.OK {
		t.Errorf("Towards the limit: %v, error %d", p, e)
	}
}

// P1.15: the place at l is away from q by l, but for 2, if both places are not too near.
func TestTowardsLength(t *testing.T) {
	r := dice()
	over := 0
	for range 30000 {
		size := int64(1) << between(r, 1, 22)
		p, q := near(r, size), near(r, size)
		l := between(r, 0, min(far, 4*size))
		if p == q || 256*squareOf(t, p, q) < l*l {
			continue
		}
		to, e := turf.Towards(p, q, l)
		if e == api.ErrOver {
			over++
			continue
		}
		s := squareOf(t, to, q)
		if e != api.OK || s > (l+2)*(l+2) || l > 2 && s < (l-2)*(l-2) {
			t.Errorf("Towards(%v, %v, %d): %v, error %d", p, q, l, to, e)
		}
	}
	if over > 10000 {
		t.Errorf("%d places are beyond the limit", over)
	}
}
