package lawn_test

import (
	"slices"
	"testing"

	"roquet/api"
	"roquet/lawn"
)

// P2.3: what is in the way of the example.
func TestInWayGreen(t *testing.T) {
	if got := inWayOf(t, green(), at(50000, 30000), at(50000, 50000), ball, nil); len(got) != 0 {
		t.Errorf("InWay through the middle: %v", got)
	}
	if got := inWayOf(t, green(), at(49900, 30000), at(49900, 50000), ball, nil); !slices.Equal(got, []int{0}) {
		t.Errorf("InWay beside the middle: %v", got)
	}
}

// P2.3: a ball touches what is nearer than both radii, and not what is just as far.
func TestTouchedNearly(t *testing.T) {
	l := green()
	for _, x := range []struct {
		p      api.Point
		r      int64
		others []api.Disc
		want   []int
	}{
		{at(50000, 40000), 3000, nil, nil},
		{at(50000, 40000), 3001, nil, []int{0, 1}},
		{at(49999, 40000), 3000, nil, []int{0}},
		{at(50001, 40000), 3000, nil, []int{1}},
		{at(50000, 104146), ball, nil, nil},
		{at(50000, 104145), ball, nil, []int{4}},
		{at(30000, 100000), 3001, nil, []int{2, 3}},
		{at(10000, 10000), 30, []api.Disc{disc(10030, 10040, 20), disc(10030, 10040, 21), disc(10000, 10000, 1)}, []int{6, 7}},
		{at(-far, -far), api.MaxBall, []api.Disc{disc(-far, -far+1, api.MaxBall)}, []int{5}},
		{at(far, far), 1, []api.Disc{disc(far, far-2, 1), disc(far, far-1, 1), disc(-far, -far, api.MaxBall)}, []int{6}},
	} {
		if got := touchedBy(t, l, x.p, x.r, x.others); !slices.Equal(got, x.want) {
			t.Errorf("Touched at %v by %d: %v, not %v", x.p, x.r, got, x.want)
		}
		if got := inWayOf(t, l, x.p, x.p, x.r, x.others); !slices.Equal(got, x.want) {
			t.Errorf("InWay at %v by %d: %v, not %v", x.p, x.r, got, x.want)
		}
	}
}

// P2.3: what is touched between whole points, or just not touched, on the way.
func TestInWayNearly(t *testing.T) {
	l := small()
	n := len(postsOf(t, l))
	for _, x := range []struct {
		a, b  api.Point
		r     int64
		other api.Disc
		want  bool
	}{
		// The way along (3, 4) is 5 away from the point that is (-4, 3) beside it.
		{at(20000, 20000), at(20600, 20800), 4, disc(20296, 20403, 1), false},
		{at(20000, 20000), at(20600, 20800), 4, disc(20296, 20403, 2), true},
		// No whole point of this way is so near as its middle.
		{at(20000, 20000), at(20003, 20001), 1, disc(20001, 20001, 1), true},
		{at(20000, 20000), at(20001, 20001), 1, disc(20002, 19999, 1), false},
		{at(20000, 20000), at(20001, 20001), 1, disc(20001, 19999, 1), true},
		// Beyond both ends only the ends count.
		{at(20000, 20000), at(20100, 20000), 3, disc(20107, 20000, 4), false},
		{at(20000, 20000), at(20100, 20000), 3, disc(20106, 20000, 4), true},
		{at(20000, 20000), at(20100, 20000), 3, disc(19993, 20000, 4), false},
		{at(20000, 20000), at(20100, 20000), 3, disc(19994, 20000, 4), true},
		// The longest ways there are.
		{at(-far, -far), at(far, far), api.MaxBall, disc(23170, -23170, api.MaxBall), true},
		{at(-far, -far), at(far, far), api.MaxBall, disc(23171, -23171, api.MaxBall), false},
		{at(-far, far), at(far, far), api.MaxBall, disc(0, far-2*api.MaxBall, api.MaxBall), false},
		{at(-far, far), at(far, far-1), api.MaxBall, disc(0, far-2*api.MaxBall, api.MaxBall), true},
	} {
		got := inWayOf(t, l, x.a, x.b, x.r, []api.Disc{x.other})
		if slices.Contains(got, n) != x.want {
			t.Errorf("InWay from %v to %v by %d of %v: %v", x.a, x.b, x.r, x.other, got)
		}
	}
}

// P2.3: Touched and InWay by the definition, in exact quotients.
func TestInWayDefined(t *testing.T) {
	r := dice()
	for range 400 {
		l := anyLawn(r)
		h := l.Hoops[r.Intn(len(l.Hoops))]
		a, b, size := near(r, at(h.X, h.Y), 20000), near(r, at(h.X, h.Y), 20000), roll(r, 1, 5000)
		others := someOthers(r, a, 40000)
		all := append(postsOf(t, l), others...)
		if got, want := inWayOf(t, l, a, b, size, others), onWay(a, b, size, all); !slices.Equal(got, want) {
			t.Errorf("InWay from %v to %v by %d: %v, not %v", a, b, size, got, want)
		}
		if got, want := touchedBy(t, l, a, size, others), onWay(a, a, size, all); !slices.Equal(got, want) {
			t.Errorf("Touched at %v by %d: %v, not %v", a, size, got, want)
		}
	}
}

// P2.3: a ball may lie at the sides of a lawn, where it touches nothing.
func TestMay(t *testing.T) {
	l := green()
	for _, x := range []struct {
		p      api.Point
		r      int64
		others []api.Disc
		want   bool
	}{
		{at(0, 0), ball, nil, true},
		{at(100000, 200000), api.MaxBall, nil, true},
		{at(-1, 0), ball, nil, false},
		{at(0, -1), ball, nil, false},
		{at(100001, 0), ball, nil, false},
		{at(0, 200001), ball, nil, false},
		{at(far, far), 1, nil, false},
		{at(50000, 40000), 3000, nil, true},
		{at(50000, 40000), 3001, nil, false},
		{at(50000, 104146), ball, nil, true},
		{at(50000, 104145), ball, nil, false},
		{at(10000, 10000), ball, []api.Disc{disc(10000, 10000+2*ball, ball)}, true},
		{at(10000, 10000), ball, []api.Disc{disc(0, 0, 1), disc(10000, 9999+2*ball, ball)}, false},
		{at(10000, 10000), ball, []api.Disc{disc(-far, -far, api.MaxBall), disc(50000, 100000, ball)}, true}, // the others may lie in anything
	} {
		if got, e := lawn.May(l, x.p, x.r, x.others); got != x.want || e != api.OK {
			t.Errorf("May at %v by %d with %v: %v, error %d", x.p, x.r, x.others, got, e)
		}
	}
}

// P2.3: a ball may lie where it is on the lawn, and touches nothing.
func TestMayDefined(t *testing.T) {
	r := dice()
	yes := 0
	for range 3000 {
		l := anyLawn(r)
		p, size := at(roll(r, -9, l.Wide+9), roll(r, -9, l.Long+9)), roll(r, 1, 2500)
		others := someOthers(r, p, 60000)
		isOn, _ := lawn.On(l, p)
		want := isOn && len(touchedBy(t, l, p, size, others)) == 0
		if got, e := lawn.May(l, p, size, others); got != want || e != api.OK {
			t.Errorf("May at %v by %d: %v, error %d", p, size, got, e)
		}
		if want {
			yes++
		}
	}
	if yes < 100 || yes > 2900 {
		t.Errorf("%d balls of 3000 may lie: too few to tell", yes)
	}
}

// P2.9: a way touches what is touched at its points; the way back touches the same, and a greater ball no less.
func TestWays(t *testing.T) {
	r := dice()
	for range 400 {
		l := anyLawn(r)
		h := l.Hoops[r.Intn(len(l.Hoops))]
		a, size := near(r, at(h.X, h.Y), 9000), roll(r, 1, api.MaxBall-1)
		step, steps := near(r, at(0, 0), 300), roll(r, 0, 40)
		b := at(a.X+step.X*steps, a.Y+step.Y*steps)
		others := someOthers(r, a, 30000)
		way := inWayOf(t, l, a, b, size, others)
		for k := range steps + 1 {
			p := at(a.X+step.X*k, a.Y+step.Y*k)
			if got := touchedBy(t, l, p, size, others); !subset(got, way) {
				t.Errorf("at %v the ball touches %v, on the way from %v to %v just %v", p, got, a, b, way)
			}
		}
		if got, want := inWayOf(t, l, a, a, size, others), touchedBy(t, l, a, size, others); !slices.Equal(got, want) {
			t.Errorf("from %v to itself the ball touches %v, at it %v", a, got, want)
		}
		if back := inWayOf(t, l, b, a, size, others); !slices.Equal(back, way) {
			t.Errorf("the way back from %v to %v touches %v, not %v", b, a, back, way)
		}
		if more := inWayOf(t, l, a, b, roll(r, size, api.MaxBall), others); !subset(way, more) {
			t.Errorf("a greater ball touches %v, and not all of %v", more, way)
		}
	}
}
