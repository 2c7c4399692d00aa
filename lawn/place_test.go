package lawn_test

import (
	"slices"
	"testing"

	"roquet/api"
	"roquet/lawn"
)

// P2.2: the posts of a lawn.
func TestPosts(t *testing.T) {
	want := []api.Disc{disc(46500, 40000, 500), disc(53500, 40000, 500), disc(30000, 96500, 500), disc(30000, 103500, 500), disc(50000, 100000, 1200)}
	if got := postsOf(t, green()); !slices.Equal(got, want) {
		t.Errorf("Posts: %v", got)
	}
	if got := postsOf(t, small()); !slices.Equal(got, []api.Disc{disc(7998, 8000, 1), disc(8002, 8000, 1), disc(1, 1, 1)}) {
		t.Errorf("Posts of the small lawn: %v", got)
	}
	l := largest()
	got := postsOf(t, l)
	if len(got) != 2*api.MaxHoops+1 || got[2*api.MaxHoops] != l.Peg {
		t.Fatalf("Posts of the largest lawn: %v", got)
	}
	for k, h := range l.Hoops {
		d := h.Gap/2 + h.Wire
		one, other := disc(h.X-d, h.Y, h.Wire), disc(h.X+d, h.Y, h.Wire)
		if h.Along {
			one, other = disc(h.X, h.Y-d, h.Wire), disc(h.X, h.Y+d, h.Wire)
		}
		if got[2*k] != one || got[2*k+1] != other {
			t.Errorf("the wires of the hoop %d: %v, %v", k, got[2*k], got[2*k+1])
		}
	}
}

// P2.2: the sides of a lawn are on it.
func TestOn(t *testing.T) {
	l := green()
	for _, x := range []int64{-1, 0, 1, 50000, 99999, 100000, 100001, far, -far} {
		for _, y := range []int64{-1, 0, 1, 50000, 199999, 200000, 200001, far, -far} {
			want := x >= 0 && x <= 100000 && y >= 0 && y <= 200000
			if got, e := lawn.On(l, at(x, y)); got != want || e != api.OK {
				t.Errorf("On of %d, %d: %v, error %d", x, y, got, e)
			}
		}
	}
	if got, e := lawn.On(largest(), at(far, far)); !got || e != api.OK {
		t.Errorf("On at the far corner: %v, error %d", got, e)
	}
}

// P2.2: the cells of the example.
func TestCellAtGreen(t *testing.T) {
	l := green()
	for p, want := range map[api.Point]int{
		at(49999, 0): 0, at(50000, 200000): 1, at(100000, 0): 1, at(0, 0): 0, at(0, 200000): 0, at(49999, 200000): 0, at(50000, 0): 1, at(100000, 200000): 1,
	} {
		if c, e := lawn.CellAt(l, p); c != l.Cells[want] || e != api.OK {
			t.Errorf("CellAt of %v: %v, error %d", p, c, e)
		}
	}
	for _, p := range []api.Point{at(-1, 0), at(0, -1), at(100001, 0), at(0, 200001), at(far, far), at(-far, -far)} {
		if c, e := lawn.CellAt(l, p); c != (api.Cell{}) || e != api.ErrNone {
			t.Errorf("CellAt of %v: %v, error %d", p, c, e)
		}
	}
}

// stripOf returns, by the definition, in which of n strips x lies: the greatest i for which i side is at most x n, but at most n - 1.
func stripOf(x, side int64, n int) int {
	i := 0
	for i+1 < n && int64(i+1)*side <= x*int64(n) {
		i++
	}
	return i
}

// P2.2: the cells, row by row along X, of lawns whose sides the cells do not part without a rest.
func TestCellAt(t *testing.T) {
	r := dice()
	for range 60 {
		l := anyLawn(r)
		for k := range l.Cells {
			l.Cells[k].Drag = int64(k)
		}
		for range 60 {
			p := at(roll(r, 0, l.Wide), roll(r, 0, l.Long))
			if r.Intn(2) == 0 { // at a border of cells, or next to it
				p.X = min(max(l.Wide*roll(r, 0, int64(l.NX))/int64(l.NX)+roll(r, -1, 1), 0), l.Wide)
				p.Y = min(max(l.Long*roll(r, 0, int64(l.NY))/int64(l.NY)+roll(r, -1, 1), 0), l.Long)
			}
			want := stripOf(p.Y, l.Long, l.NY)*l.NX + stripOf(p.X, l.Wide, l.NX)
			if c, e := lawn.CellAt(l, p); c.Drag != int64(want) || e != api.OK {
				t.Fatalf("CellAt of %v on %d by %d with %d by %d cells: %d, error %d; not %d", p, l.Wide, l.Long, l.NX, l.NY, c.Drag, e, want)
			}
		}
	}
}

// P2.13: mirrored, a ball touches the same, and stands to hoops that are run along Y as before.
func TestMirrored(t *testing.T) {
	r := dice()
	for range 300 {
		l := anyLawn(r)
		turn := func(p api.Point) api.Point { return at(l.Wide-p.X, p.Y) }
		turnAll := func(l []api.Disc) []api.Disc {
			m := slices.Clone(l)
			for k := range m {
				m[k].At = turn(m[k].At)
			}
			return m
		}
		m := copied(l)
		m.Peg.At = turn(m.Peg.At)
		for k := range m.Hoops {
			m.Hoops[k].X = l.Wide - l.Hoops[k].X
		}
		hoop := r.Intn(len(l.Hoops))
		h := l.Hoops[hoop]
		size := roll(r, 1, api.MaxBall)
		a, b := near(r, at(h.X, h.Y), 9000), near(r, at(h.X, h.Y), 9000)
		others := someOthers(r, a, 30000)
		if got, want := sortedPosts(touchedBy(t, m, turn(a), size, turnAll(others)), l), touchedBy(t, l, a, size, others); !slices.Equal(got, want) {
			t.Errorf("Touched mirrored: %v, not %v", got, want)
		}
		if got, want := sortedPosts(inWayOf(t, m, turn(a), turn(b), size, turnAll(others)), l), inWayOf(t, l, a, b, size, others); !slices.Equal(got, want) {
			t.Errorf("InWay mirrored: %v, not %v", got, want)
		}
		forward := r.Intn(2) == 0
		// A hoop that is run along X is run the other way on the mirrored lawn.
		if got, want := standOf(t, m, hoop, forward != h.Along, turn(a), size), standOf(t, l, hoop, forward, a, size); got != want {
			t.Errorf("Stand mirrored: %d, not %d", got, want)
		}
	}
}

// sortedPosts returns the numbers of what is touched on a mirrored lawn as they are on l: the wires of a hoop that is run along Y change places.
func sortedPosts(numbers []int, l api.Lawn) []int {
	var m []int
	for _, n := range numbers {
		if n < 2*len(l.Hoops) && !l.Hoops[n/2].Along {
			n ^= 1
		}
		m = append(m, n)
	}
	slices.Sort(m)
	return m
}
