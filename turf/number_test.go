package turf_test

import (
	"math"
	"math/big"
	"math/rand"
	"testing"

	"roquet/api"
	"roquet/turf"
)

// divide parts n by d, and fails if it cannot be parted.
func divide(t *testing.T, n, d int64) api.Part {
	t.Helper()
	p, e := turf.Divide(n, d)
	if e != api.OK {
		t.Fatalf("Divide(%d, %d): error %d", n, d, e)
	}
	return p
}

// P1.2: quotients, with halves, below 0, and at the limits.
func TestDivide(t *testing.T) {
	const most = 1 << 60
	for _, x := range []struct {
		n, d int64
		want api.Part
	}{
		{7, 2, api.Part{Whole: 4, Rest: -1}},
		{-7, 2, api.Part{Whole: -3, Rest: -1}},
		{-1, 2, api.Part{Whole: 0, Rest: -1}},
		{1, 2, api.Part{Whole: 1, Rest: -1}},
		{5, 4, api.Part{Whole: 1, Rest: 1}},
		{6, 4, api.Part{Whole: 2, Rest: -2}},
		{-6, 4, api.Part{Whole: -1, Rest: -2}},
		{-5, 4, api.Part{Whole: -1, Rest: -1}},
		{-7, 4, api.Part{Whole: -2, Rest: 1}},
		{1, 3, api.Part{Whole: 0, Rest: 1}},
		{2, 3, api.Part{Whole: 1, Rest: -1}},
		{-1, 3, api.Part{Whole: 0, Rest: -1}},
		{-2, 3, api.Part{Whole: -1, Rest: 1}},
		{0, 9, api.Part{}},
		{-9, 1, api.Part{Whole: -9}},
		{most, 1, api.Part{Whole: most}},
		{-most, 1, api.Part{Whole: -most}},
		{most, most, api.Part{Whole: 1}},
		{-most, most, api.Part{Whole: -1}},
		{most / 2, most, api.Part{Whole: 1, Rest: -most / 2}},
		{-most / 2, most, api.Part{Whole: 0, Rest: -most / 2}},
		{most/2 - 1, most, api.Part{Whole: 0, Rest: most/2 - 1}},
		{-most/2 - 1, most, api.Part{Whole: -1, Rest: most/2 - 1}},
	} {
		if p := divide(t, x.n, x.d); p != x.want {
			t.Errorf("Divide(%d, %d): %v, not %v", x.n, x.d, p, x.want)
		}
	}
}

// P1.2: numbers that are not parted.
func TestDivideRange(t *testing.T) {
	const most = 1 << 60
	for _, x := range [][2]int64{
		{1, 0}, {1, -1}, {0, 0}, {1, most + 1}, {most + 1, 1}, {-most - 1, 1},
		{math.MinInt64, 1}, {math.MaxInt64, 1}, {1, math.MinInt64}, {1, math.MaxInt64}, {math.MinInt64, -1},
	} {
		if p, e := turf.Divide(x[0], x[1]); p != (api.Part{}) || e != api.ErrRange {
			t.Errorf("Divide(%d, %d): %v, error %d", x[0], x[1], p, e)
		}
	}
}

// checkPart fails if p is not n parted by d.
func checkPart(t *testing.T, n, d int64, p api.Part) {
	t.Helper()
	together := new(big.Int).Mul(big.NewInt(p.Whole), big.NewInt(d))
	together.Add(together, big.NewInt(p.Rest))
	if together.Cmp(big.NewInt(n)) != 0 {
		t.Errorf("Divide(%d, %d): %v is together %v", n, d, p, together)
	}
	if 2*p.Rest < -d || 2*p.Rest >= d {
		t.Errorf("Divide(%d, %d): the rest of %v is too far from 0", n, d, p)
	}
}

// toPart returns a number that can be parted, of any size.
func toPart(r *rand.Rand) int64 {
	n := between(r, 0, 1<<between(r, 0, 60))
	if r.Intn(2) == 0 {
		return -n
	}
	return n
}

// P1.10: nothing is lost.
func TestNothingIsLost(t *testing.T) {
	for d := int64(1); d <= 12; d++ {
		for n := int64(-40); n <= 40; n++ {
			checkPart(t, n, d, divide(t, n, d))
		}
	}
	r := dice()
	for range 20000 {
		n, d := toPart(r), between(r, 1, 1<<between(r, 0, 60))
		checkPart(t, n, d, divide(t, n, d))
	}
}

// P1.10: the part of a sum is that of both parts, and of their rests.
func TestPartsOfSum(t *testing.T) {
	r := dice()
	for range 20000 {
		a, b, d := toPart(r)/2, toPart(r)/2, between(r, 1, 1<<between(r, 0, 59))
		p, q, both := divide(t, a, d), divide(t, b, d), divide(t, a+b, d)
		rests := divide(t, p.Rest+q.Rest, d)
		if want := (api.Part{Whole: p.Whole + q.Whole + rests.Whole, Rest: rests.Rest}); both != want {
			t.Errorf("%d and %d parted by %d: %v and %v, together %v", a, b, d, p, q, both)
		}
	}
}

// P1.2: roots.
func TestRoot(t *testing.T) {
	for _, x := range [][2]int64{
		{0, 0}, {1, 1}, {2, 1}, {3, 1}, {4, 2}, {80, 8}, {81, 9}, {99, 9},
		{1 << 62, 1 << 31}, {1<<62 - 1, 1<<31 - 1}, {1 << 61, 1518500249},
	} {
		if n, e := turf.Root(x[0]); n != x[1] || e != api.OK {
			t.Errorf("Root(%d): %d, error %d", x[0], n, e)
		}
	}
	for _, n := range []int64{-1, 1<<62 + 1, math.MinInt64, math.MaxInt64} {
		if w, e := turf.Root(n); w != 0 || e != api.ErrRange {
			t.Errorf("Root(%d): %d, error %d", n, w, e)
		}
	}
}

// P1.2: the square of a root is not greater, and that of the next number is.
func TestRootOfAll(t *testing.T) {
	check := func(n int64) {
		w, e := turf.Root(n)
		if e != api.OK || w < 0 || w*w > n || (w+1)*(w+1) <= n {
			t.Errorf("Root(%d): %d, error %d", n, w, e)
		}
	}
	for n := range int64(5000) {
		check(n)
	}
	r := dice()
	for range 20000 {
		check(between(r, 0, 1<<between(r, 0, 62)))
		w := between(r, 1, 1<<between(r, 0, 31))
		check(w*w - 1)
		check(w * w)
	}
}

// P1.3: products that fit a word, and that do not.
func TestWide(t *testing.T) {
	const most = api.MaxWide
	for _, x := range []struct {
		a, b, c, d int64
		want       int
	}{
		{1 << 61, 4, most, 2, 0},
		{1 << 61, 4, most, 3, -1},
		{1 << 61, 4, most, 1, 1},
		{0, most, 0, 0, 0},
		{0, most, 1, 1, -1},
		{2, 3, 6, 1, 0},
		{2, 3, 7, 1, -1},
		{most, most, most, most, 0},
		{most, most, most, most - 1, 1},
		{most - 1, most, most, most, -1},
		{most - 1, most - 1, most, most - 2, 1},
		{1 << 32, 1 << 32, most, 4, 0},
		{1 << 32, 1 << 32, most, 3, 1},
		{1 << 32, 1<<32 + 1, 1 << 32, 1 << 32, 1},
	} {
		if n, e := turf.Wide(x.a, x.b, x.c, x.d); n != x.want || e != api.OK {
			t.Errorf("Wide(%d, %d, %d, %d): %d, error %d", x.a, x.b, x.c, x.d, n, e)
		}
	}
	for k := range 4 {
		for _, bad := range []int64{-1, most + 1, math.MinInt64, math.MaxInt64} {
			l := [4]int64{9, 9, 1, 1}
			l[k] = bad
			if n, e := turf.Wide(l[0], l[1], l[2], l[3]); n != 0 || e != api.ErrRange {
				t.Errorf("Wide of %v: %d, error %d", l, n, e)
			}
		}
	}
}

// P1.11: Wide compares products, and has the other sign with both sides exchanged.
func TestWideOfAll(t *testing.T) {
	r := dice()
	factor := func() int64 { return between(r, 0, 1<<between(r, 0, 62)) }
	for k := range 20000 {
		a, b, c, d := factor(), factor(), factor(), factor()
		if k%4 == 0 { // nearly the same products
			c, d = b, a
			if d > 0 {
				d -= between(r, 0, 1)
			}
		}
		p := new(big.Int).Mul(big.NewInt(a), big.NewInt(b))
		q := new(big.Int).Mul(big.NewInt(c), big.NewInt(d))
		n, e := turf.Wide(a, b, c, d)
		if n != p.Cmp(q) || e != api.OK {
			t.Errorf("Wide(%d, %d, %d, %d): %d, error %d", a, b, c, d, n, e)
		}
		if m, _ := turf.Wide(c, d, a, b); m != -n {
			t.Errorf("Wide(%d, %d, %d, %d): %d, and exchanged %d", a, b, c, d, n, m)
		}
	}
}
