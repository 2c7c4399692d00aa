package turf_test

import (
	"math/big"
	"math/rand"
	"slices"
	"testing"

	"roquet/api"
	"roquet/turf"
)

// ringOf returns the ring of a disc, and fails if it has none.
func ringOf(t *testing.T, d api.Disc) []api.Point {
	t.Helper()
	l, e := turf.Ring(d)
	if e != api.OK || len(l) != api.RingSides {
		t.Fatalf("Ring(%v): %v, error %d", d, l, e)
	}
	return l
}

// P1.7: rings, point by point.
func TestRing(t *testing.T) {
	for _, x := range []struct {
		d    api.Disc
		want []api.Point
	}{
		{disc(0, 0, 64), []api.Point{
			at(64, 0), at(59, 24), at(45, 45), at(24, 59),
			at(0, 64), at(-24, 59), at(-45, 45), at(-59, 24),
			at(-64, 0), at(-59, -24), at(-45, -45), at(-24, -59),
			at(0, -64), at(24, -59), at(45, -45), at(59, -24)}},
		{disc(-1000, 500, 4096), []api.Point{
			at(3096, 500), at(2784, 2067), at(1896, 3396), at(567, 4284),
			at(-1000, 4596), at(-2567, 4284), at(-3896, 3396), at(-4784, 2067),
			at(-5096, 500), at(-4784, -1067), at(-3896, -2396), at(-2567, -3284),
			at(-1000, -3596), at(567, -3284), at(1896, -2396), at(2784, -1067)}},
		{disc(5, 5, 1), []api.Point{
			at(6, 5), at(5, 5), at(5, 5), at(5, 5),
			at(5, 6), at(5, 5), at(5, 5), at(5, 5),
			at(4, 5), at(5, 5), at(5, 5), at(5, 5),
			at(5, 4), at(5, 5), at(5, 5), at(5, 5)}},
	} {
		if l := ringOf(t, x.d); !slices.Equal(l, x.want) {
			t.Errorf("Ring(%v): %v", x.d, l)
		}
	}
	if l := ringOf(t, disc(0, 0, api.MaxRadius)); l[1] != at(60544, 25072) || l[10] != at(-46336, -46336) {
		t.Errorf("Ring with the greatest radius: %v", l)
	}
}

// P1.7: a ring with a point beyond the limit of places is ErrOver, also for Passes.
func TestRingOver(t *testing.T) {
	for _, r := range []int64{1, 77, api.MaxRadius} {
		for _, v := range []api.Point{at(1, 0), at(0, 1), at(-1, 0), at(0, -1)} {
			edge := api.Disc{At: at(v.X*(far-r), v.Y*(far-r)), R: r}
			ringOf(t, edge)
			if _, e := turf.Passes(at(0, 0), at(1, 0), edge); e != api.OK {
				t.Errorf("Passes with %v: error %d", edge, e)
			}
			over := api.Disc{At: plus(edge.At, v), R: r}
			if l, e := turf.Ring(over); len(l) != 0 || e != api.ErrOver {
				t.Errorf("Ring(%v): %v, error %d", over, l, e)
			}
			if ok, e := turf.Passes(over.At, at(0, 0), over); ok || e != api.ErrOver {
				t.Errorf("Passes with %v: %v, error %d", over, ok, e)
			}
		}
	}
}

// R5: each ring has memory of its own.
func TestRingIsNew(t *testing.T) {
	l := ringOf(t, disc(0, 0, 64))
	clear(l)
	if l := ringOf(t, disc(0, 0, 64)); l[0] != at(64, 0) || l[2] != at(45, 45) {
		t.Errorf("Ring after the last one was changed: %v", l)
	}
}

// P1.7: segments that pass a ring, and segments that only meet its border.
func TestPasses(t *testing.T) {
	d := disc(0, 0, 64)
	for _, x := range []struct {
		a, b api.Point
		want bool
	}{
		{at(-100, 60), at(100, 60), true},
		{at(-100, 63), at(100, 63), true},
		{at(-100, 64), at(100, 64), false}, // only its corner
		{at(-100, -63), at(100, -63), true},
		{at(-100, 0), at(100, 0), true},
		{at(0, -100), at(0, 100), true},
		{at(-100, 0), at(-70, 0), false},
		{at(-100, 0), at(-64, 0), false}, // ends on its border
		{at(-100, 0), at(-63, 0), true},
		{at(64, 0), at(100, 0), false},
		{at(63, 0), at(100, 0), true},
		{at(1, 1), at(5, -9), true}, // all of it inside
		{at(0, 0), at(0, 0), true},  // of no length
		{at(63, 0), at(63, 0), true},
		{at(64, 0), at(64, 0), false},
		{at(99, 0), at(99, 0), false},
		{at(64, 0), at(59, 24), false}, // a side
		{at(69, -24), at(54, 48), false},
		{at(59, 24), at(64, 0), false},
		{at(64, 0), at(45, 45), true}, // from corner to corner
		{at(-100, 101), at(101, -100), true},
		{at(0, 90), at(90, 0), false}, // only its corner (45, 45)
		{at(0, 91), at(91, 0), false},
		{at(0, 89), at(89, 0), true},
		{at(-far, -far), at(far, far), true},
		{at(-far, far), at(far, far), false},
	} {
		if ok, e := turf.Passes(x.a, x.b, d); ok != x.want || e != api.OK {
			t.Errorf("Passes(%v, %v): %v, error %d", x.a, x.b, ok, e)
		}
	}
}

// ways returns the ways of a ring, each one from a point to the next one that is another one.
func ways(l []api.Point) [][2]api.Point {
	var out [][2]api.Point
	for k, p := range l {
		for i := 1; i < len(l); i++ {
			if q := l[(k+i)%len(l)]; q != p {
				out = append(out, [2]api.Point{p, q})
				break
			}
		}
	}
	return out
}

// truePasses tells whether the segment passes the ring, found with fractions: it looks at both ends, at all points where the segment meets the line of a side, and between them.
func truePasses(a, b api.Point, l []api.Point) bool {
	shares := []*big.Rat{rat(0, 1), rat(1, 1)}
	all := ways(l)
	for _, w := range all {
		first, last := cross(w[0], w[1], a), cross(w[0], w[1], b)
		if first < 0 && last > 0 || first > 0 && last < 0 {
			shares = append(shares, rat(first, first-last))
		}
	}
	slices.SortFunc(shares, func(s, t *big.Rat) int { return s.Cmp(t) })
	for k, s := range shares {
		if isInside(along(a, b, s), all) {
			return true
		}
		if k > 0 && isInside(along(a, b, times(sum(s, shares[k-1]), rat(1, 2))), all) {
			return true
		}
	}
	return false
}

// isInside tells whether s is to the left of all these ways.
func isInside(s spot, l [][2]api.Point) bool {
	for _, w := range l {
		if s.leftOf(w[0], w[1]) <= 0 {
			return false
		}
	}
	return len(l) > 0
}

// cross returns how far p is to the left of the way from a to b, times its length.
func cross(a, b, p api.Point) int64 {
	return (b.X-a.X)*(p.Y-a.Y) - (b.Y-a.Y)*(p.X-a.X)
}

// P1.7: small rings, which may have no inside at all, with all segments about them.
func TestPassesOfSmall(t *testing.T) {
	for r := int64(1); r <= 4; r++ {
		d := disc(0, 0, r)
		l := ringOf(t, d)
		for k := range int64(7 * 7 * 7 * 7) {
			a, b := at(k%7-3, k/7%7-3), at(k/49%7-3, k/343-3)
			if ok, e := turf.Passes(a, b, d); ok != truePasses(a, b, l) || e != api.OK {
				t.Errorf("Passes(%v, %v, %v): %v, error %d", a, b, d, ok, e)
			}
		}
	}
}

// P1.7: rings of all sizes, with segments between places about them, some of them corners.
func TestPassesOfAll(t *testing.T) {
	r := dice()
	passed := 0
	for range 4000 {
		d := api.Disc{At: near(r, far/2), R: between(r, 1, 1<<between(r, 0, 16))}
		l := ringOf(t, d)
		end := func() api.Point {
			if r.Intn(4) == 0 {
				return l[r.Intn(len(l))]
			}
			return plus(d.At, near(r, d.R+between(r, 0, 3*d.R)))
		}
		a, b := end(), end()
		ok, e := turf.Passes(a, b, d)
		if ok != truePasses(a, b, l) || e != api.OK {
			t.Errorf("Passes(%v, %v, %v): %v, error %d", a, b, d, ok, e)
		}
		if other, _ := turf.Passes(b, a, d); other != ok {
			t.Errorf("Passes(%v, %v, %v): %v, and with the ends exchanged %v", a, b, d, ok, other)
		}
		if ok {
			passed++
		}
	}
	if passed < 500 || passed > 3500 {
		t.Errorf("of 4000 segments %d pass", passed)
	}
}

// P1.7: segments as long as the lawn, with the greatest rings.
func TestPassesFarAway(t *testing.T) {
	r := dice()
	for range 1000 {
		d := api.Disc{At: near(r, far-api.MaxRadius), R: api.MaxRadius}
		l := ringOf(t, d)
		a := near(r, far)
		b := at(2*d.At.X-a.X, 2*d.At.Y-a.Y) // through the middle, or nearly so
		b = at(min(far, max(-far, b.X)), min(far, max(-far, b.Y)))
		if ok, e := turf.Passes(a, b, d); ok != truePasses(a, b, l) || e != api.OK {
			t.Errorf("Passes(%v, %v, %v): %v, error %d", a, b, d, ok, e)
		}
	}
}

// P1.13: no point of a ring is farther away than R, or nearer than R by more than R / 8,192 and 2.
func TestPointsOfRings(t *testing.T) {
	for r := int64(1); r <= api.MaxRadius; r++ {
		if r > 3000 && r%17 != 0 && r < api.MaxRadius-50 {
			continue
		}
		for k, p := range ringOf(t, disc(0, 0, r)) {
			away := squareOf(t, p, at(0, 0))
			least := 8192*(r-2) - r // 8,192 times the least distance
			if away > r*r || least > 0 && 8192*8192*away < least*least {
				t.Fatalf("the point %d of the ring with %d: %v", k, r, p)
			}
		}
	}
}

// outside returns a place that is not in the disc, but not far from it.
func outside(t *testing.T, r *rand.Rand, d api.Disc) api.Point {
	for {
		p := plus(d.At, near(r, 2*d.R))
		if squareOf(t, p, d.At) > d.R*d.R {
			return p
		}
	}
}

// P1.13: what does not cut a disc does not pass its ring, and what comes near to its middle does.
func TestRingsAsDiscs(t *testing.T) {
	r := dice()
	cuts, nears := 0, 0
	for k := range 40000 {
		d := api.Disc{At: near(r, 1000), R: between(r, 1, 1<<between(r, 0, 14))}
		if k%2 == 0 {
			d.R = between(r, 1, 80)
		}
		a, b := outside(t, r, d), outside(t, r, d)
		cut, _ := turf.Cuts(a, b, d)
		pass, e := turf.Passes(a, b, d)
		if e != api.OK || pass && !cut {
			t.Errorf("%v to %v and %v: it cuts: %v, and passes: %v, error %d", a, b, d, cut, pass, e)
		}
		if cut {
			cuts++
		}
		// All 16 times, so that 15 R / 16 less 8 is a whole number.
		if 15*d.R < 128 {
			continue
		}
		m := func(p api.Point) api.Point { return at(16*p.X, 16*p.Y) }
		if n, e := turf.Lies(m(a), m(b), m(d.At), 15*d.R-128); e != api.OK || n < 0 && !pass {
			t.Errorf("%v to %v and %v: it lies near, but passes: %v, error %d", a, b, d, pass, e)
		} else if n < 0 {
			nears++
		}
	}
	if cuts < 5000 || nears < 5000 {
		t.Errorf("only %d cut, and %d come near", cuts, nears)
	}
}
