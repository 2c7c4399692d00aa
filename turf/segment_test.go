package turf_test

import (
	"math"
	"math/big"
	"math/rand"
	"testing"

	"roquet/api"
	"roquet/turf"
)

// P1.4: squares of places.
func TestSquare(t *testing.T) {
	for _, x := range []struct {
		a, b api.Point
		want int64
	}{
		{at(0, 0), at(3, 4), 25},
		{at(-3, 4), at(-3, 4), 0},
		{at(-1, -1), at(1, 2), 13},
		{at(-far, -far), at(far, far), 1 << 47},
	} {
		if n := squareOf(t, x.a, x.b); n != x.want {
			t.Errorf("Square(%v, %v): %d", x.a, x.b, n)
		}
		if n := squareOf(t, x.b, x.a); n != x.want {
			t.Errorf("Square(%v, %v): %d", x.b, x.a, n)
		}
	}
}

// P1.4: left, right and in line.
func TestSide(t *testing.T) {
	for _, x := range []struct {
		a, b, p api.Point
		want    int
	}{
		{at(0, 0), at(10, 0), at(5, 1), 1},
		{at(0, 0), at(10, 0), at(5, -1), -1},
		{at(0, 0), at(10, 0), at(-7, 0), 0},
		{at(0, 0), at(0, 10), at(1, 5), -1},
		{at(0, 0), at(0, 10), at(-1, 5), 1},
		{at(0, 0), at(3, 2), at(6, 4), 0},
		{at(0, 0), at(3, 2), at(6, 5), 1},
		{at(2, 2), at(2, 2), at(9, 5), 0},
		{at(-far, -far), at(far, far), at(-far, far), 1},
		{at(-far, -far), at(far, far), at(far, -far), -1},
		{at(-far, -far), at(far, far-1), at(far, far), 1},
	} {
		if n, e := turf.Side(x.a, x.b, x.p); n != x.want || e != api.OK {
			t.Errorf("Side(%v, %v, %v): %d, error %d", x.a, x.b, x.p, n, e)
		}
		if n, e := turf.Side(x.b, x.a, x.p); n != -x.want || e != api.OK {
			t.Errorf("Side(%v, %v, %v): %d, error %d", x.b, x.a, x.p, n, e)
		}
	}
}

// P1.5: how a place lies, past the ends, between them, and with a segment of no length.
func TestLies(t *testing.T) {
	for _, x := range []struct {
		a, b, p api.Point
		r       int64
		want    int
	}{
		{at(0, 0), at(10, 0), at(5, 3), 3, 0},
		{at(0, 0), at(10, 0), at(5, 3), 4, -1},
		{at(0, 0), at(10, 0), at(5, 3), 2, 1},
		{at(0, 0), at(10, 0), at(12, 0), 2, 0},
		{at(0, 0), at(10, 0), at(13, 4), 5, 0},
		{at(0, 0), at(10, 0), at(-3, 4), 5, 0},
		{at(0, 0), at(10, 0), at(-3, 4), 6, -1},
		{at(0, 0), at(10, 0), at(-3, 4), 4, 1},
		{at(0, 0), at(10, 0), at(7, 0), 0, 0},
		{at(0, 0), at(10, 0), at(7, 0), 1, -1},
		{at(0, 0), at(10, 0), at(11, 0), 0, 1},
		{at(0, 0), at(3, 3), at(3, 0), 2, 1}, // the root of 4.5
		{at(0, 0), at(3, 3), at(3, 0), 3, -1},
		{at(0, 0), at(8, 6), at(1, 7), 5, 0},
		{at(4, 4), at(4, 4), at(7, 8), 5, 0},
		{at(4, 4), at(4, 4), at(7, 8), 6, -1},
		{at(4, 4), at(4, 4), at(7, 8), 4, 1},
		{at(4, 4), at(4, 4), at(4, 4), 0, 0},
		{at(-far, -far), at(far, far), at(far, -far), 5931641, 1}, // 2^22 times the root of 2
		{at(-far, -far), at(far, far), at(far, -far), 5931642, -1},
		{at(-far, -far), at(-far, far), at(far, 0), 2 * far, 0},
		{at(-far, -far), at(-far, far), at(far, 0), 2*far - 1, 1},
		{at(-far, -far), at(-far, -far), at(far, far), 2 * far, 1},
	} {
		if n, e := turf.Lies(x.a, x.b, x.p, x.r); n != x.want || e != api.OK {
			t.Errorf("Lies(%v, %v, %v, %d): %d, error %d", x.a, x.b, x.p, x.r, n, e)
		}
	}
	for _, r := range []int64{-1, 2*far + 1, math.MinInt64, math.MaxInt64} {
		if n, e := turf.Lies(at(0, 0), at(1, 0), at(9, 9), r); n != 0 || e != api.ErrRange {
			t.Errorf("Lies with %d: %d, error %d", r, n, e)
		}
	}
}

// trueLies returns how p lies to the segment, found with fractions.
func trueLies(a, b, p api.Point, r int64) int {
	t := new(big.Rat)
	if a != b {
		dx, dy := b.X-a.X, b.Y-a.Y
		t = rat(dx*(p.X-a.X)+dy*(p.Y-a.Y), dx*dx+dy*dy)
	}
	if t.Sign() < 0 {
		t = rat(0, 1)
	}
	if t.Cmp(rat(1, 1)) > 0 {
		t = rat(1, 1)
	}
	return along(a, b, t).squareTo(p).Cmp(rat(r*r, 1))
}

// line is a segment with a place and a radius that is not far from its distance.
type line struct {
	a, b, p api.Point
	r       int64
}

// lines returns segments of all sizes.
func lines(t *testing.T, r *rand.Rand, n int) []line {
	var l []line
	for range n {
		size := int64(1) << between(r, 1, 22)
		x := line{a: near(r, size), b: near(r, size), p: near(r, size)}
		if r.Intn(20) == 0 {
			x.b = x.a
		}
		for x.r < 2*far { // the least radius with which it does not lie outside
			if n, _ := turf.Lies(x.a, x.b, x.p, x.r); n <= 0 {
				break
			}
			x.r += max(1, x.r/8)
		}
		x.r = max(0, min(2*far, x.r-between(r, 0, 1+x.r/16)))
		l = append(l, x)
	}
	if len(l) != n {
		t.Fatal("no segments")
	}
	return l
}

// P1.5: small segments, all of them, and ones of all sizes.
func TestLiesOfAll(t *testing.T) {
	for k := range int64(5 * 5 * 9 * 9) {
		b, p := at(k%5, k/5%5), at(k/25%9-2, k/225-2)
		for r := range int64(9) {
			if n, e := turf.Lies(at(0, 0), b, p, r); n != trueLies(at(0, 0), b, p, r) || e != api.OK {
				t.Errorf("Lies(0, %v, %v, %d): %d, error %d", b, p, r, n, e)
			}
		}
	}
	for _, x := range lines(t, dice(), 3000) {
		if n, e := turf.Lies(x.a, x.b, x.p, x.r); n != trueLies(x.a, x.b, x.p, x.r) || e != api.OK {
			t.Errorf("Lies of %v: %d, error %d", x, n, e)
		}
	}
}

// P1.12: the ends exchanged, and all moved by the same way.
func TestLiesAlike(t *testing.T) {
	r := dice()
	for _, x := range lines(t, r, 5000) {
		n, _ := turf.Lies(x.a, x.b, x.p, x.r)
		if m, e := turf.Lies(x.b, x.a, x.p, x.r); m != n || e != api.OK {
			t.Errorf("Lies of %v: %d, and with the ends exchanged %d, error %d", x, n, m, e)
		}
		v := at(into(r, x.a.X, x.b.X, x.p.X), into(r, x.a.Y, x.b.Y, x.p.Y))
		if m, e := turf.Lies(plus(x.a, v), plus(x.b, v), plus(x.p, v), x.r); m != n || e != api.OK {
			t.Errorf("Lies of %v: %d, and moved by %v %d, error %d", x, n, v, m, e)
		}
	}
}

// into returns by how much these coordinates may be moved together.
func into(r *rand.Rand, l ...int64) int64 {
	lo, hi := l[0], l[0]
	for _, n := range l {
		lo, hi = min(lo, n), max(hi, n)
	}
	return between(r, -far-lo, far-hi)
}

// P1.12: no end, and no whole point of a segment, is nearer than it says.
func TestNoPointIsNearer(t *testing.T) {
	for _, x := range lines(t, dice(), 3000) {
		n, _ := turf.Lies(x.a, x.b, x.p, x.r)
		if n < 0 {
			continue
		}
		dx, dy := x.b.X-x.a.X, x.b.Y-x.a.Y
		steps := new(big.Int).GCD(nil, nil, big.NewInt(max(dx, -dx)), big.NewInt(max(dy, -dy))).Int64()
		for k := range steps + 1 {
			q := x.a
			if steps > 0 {
				q = plus(q, at(dx/steps*k, dy/steps*k))
			}
			if s := squareOf(t, q, x.p); s < x.r*x.r || n > 0 && s == x.r*x.r {
				t.Errorf("Lies of %v: %d, but %v is nearer", x, n, q)
			}
		}
	}
}

// P1.5: a disc that is only touched is not cut.
func TestCuts(t *testing.T) {
	for _, x := range []struct {
		a, b api.Point
		d    api.Disc
		want bool
	}{
		{at(0, 0), at(100, 0), disc(50, 5, 5), false},
		{at(0, 0), at(100, 0), disc(50, 5, 6), true},
		{at(0, 0), at(100, 0), disc(50, 5, 4), false},
		{at(0, 0), at(100, 0), disc(103, 4, 5), false},
		{at(0, 0), at(100, 0), disc(103, 4, 6), true},
		{at(0, 0), at(100, 0), disc(50, 0, 1), true},
		{at(49, 0), at(50, 0), disc(50, 0, 9), true}, // all of it inside
		{at(7, 7), at(7, 7), disc(10, 11, 5), false},
		{at(7, 7), at(7, 7), disc(10, 11, 6), true},
		{at(-far, far), at(far, far), disc(0, far-api.MaxRadius, api.MaxRadius), false},
		{at(-far, far), at(far, far), disc(0, far-api.MaxRadius+1, api.MaxRadius), true},
		{at(-far, far), at(far, far), disc(far, far, api.MaxRadius), true}, // its ring is beyond the limit
	} {
		if ok, e := turf.Cuts(x.a, x.b, x.d); ok != x.want || e != api.OK {
			t.Errorf("Cuts(%v, %v, %v): %v, error %d", x.a, x.b, x.d, ok, e)
		}
	}
}

// P1.12: a disc about the place is cut just if the place lies at -1.
func TestCutsAsLies(t *testing.T) {
	for _, x := range lines(t, dice(), 5000) {
		if x.r < 1 || x.r > api.MaxRadius {
			continue
		}
		n, _ := turf.Lies(x.a, x.b, x.p, x.r)
		if ok, e := turf.Cuts(x.a, x.b, api.Disc{At: x.p, R: x.r}); ok != (n == -1) || e != api.OK {
			t.Errorf("Lies of %v: %d, but it cuts: %v, error %d", x, n, ok, e)
		}
	}
}

// P1.6: discs that overlap, touch and are apart.
func TestTouch(t *testing.T) {
	const most = api.MaxRadius
	for _, x := range []struct {
		a, b api.Disc
		want int
	}{
		{disc(0, 0, 3), disc(7, 0, 3), 1},
		{disc(0, 0, 3), disc(7, 0, 4), 0},
		{disc(0, 0, 3), disc(7, 0, 5), -1},
		{disc(1, 1, 2), disc(4, 5, 3), 0},
		{disc(1, 1, 2), disc(4, 5, 2), 1},
		{disc(1, 1, 2), disc(5, 5, 3), 1},
		{disc(2, 2, 9), disc(2, 2, 1), -1}, // one in the other
		{disc(-most, 0, most), disc(most, 0, most), 0},
		{disc(-most, 1, most), disc(most, 0, most), 1},
		{disc(-most, 0, most), disc(most-1, 0, most), -1},
		{disc(-far, -far, most), disc(far, far, most), 1},
	} {
		if n, e := turf.Touch(x.a, x.b); n != x.want || e != api.OK {
			t.Errorf("Touch(%v, %v): %d, error %d", x.a, x.b, n, e)
		}
		if n, e := turf.Touch(x.b, x.a); n != x.want || e != api.OK {
			t.Errorf("Touch(%v, %v): %d, error %d", x.b, x.a, n, e)
		}
	}
}
