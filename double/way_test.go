package double_test

import (
	"math/rand"
	"slices"
	"testing"

	"roquet/api"
	"roquet/double"
)

// P8.2: ways that cross, touch, lie beside each other, and are points.
func TestMeet(t *testing.T) {
	for _, x := range []struct {
		name       string
		a, b, c, d api.Point
		r, s       int64
		want       bool
	}{
		{"crossing", at(-100, 0), at(100, 0), at(0, -100), at(0, 100), 1, 1, true},
		{"crossing, far from all ends", at(-far, -far), at(far, far), at(-far, far), at(far, -far), 1, 1, true},
		{"crossing nearly along each other", at(-far, 0), at(far, 1), at(-far, 1), at(far, 0), 1, 1, true},
		{"an end on the other way", at(-100, 0), at(100, 0), at(0, 0), at(0, 100), 1, 1, true},
		{"an end at an end", at(0, 0), at(100, 0), at(100, 0), at(200, 100), 1, 1, true},
		{"the same way", at(0, 0), at(100, 50), at(0, 0), at(100, 50), 1, 1, true},
		{"in line, a part of the other way", at(0, 0), at(100, 0), at(40, 0), at(60, 0), 1, 1, true},
		{"in line, at the distance", at(0, 0), at(100, 0), at(107, 0), at(200, 0), 3, 4, false},
		{"in line, nearer", at(0, 0), at(100, 0), at(106, 0), at(200, 0), 3, 4, true},
		{"in line, farther", at(0, 0), at(100, 0), at(108, 0), at(200, 0), 3, 4, false},
		{"side by side, at the distance", at(0, 0), at(100, 0), at(50, 7), at(150, 7), 3, 4, false},
		{"side by side, nearer", at(0, 0), at(100, 0), at(50, 7), at(150, 7), 4, 4, true},
		{"an end before the middle, at the distance", at(0, 0), at(100, 0), at(50, 7), at(50, 100), 3, 4, false},
		{"an end before the middle, nearer", at(0, 0), at(100, 0), at(50, 6), at(50, 100), 3, 4, true},
		{"aslant, 5 from an end", at(0, 0), at(-100, 0), at(3, 4), at(100, 4), 2, 3, false},
		{"aslant, 5 from an end, nearer", at(0, 0), at(-100, 0), at(3, 4), at(100, 4), 3, 3, true},
		{"nearest at a point that is not whole", at(0, 0), at(100, 1), at(50, 3), at(50, 90), 1, 1, false},
		{"nearest at a point that is not whole, nearer", at(0, 0), at(100, 1), at(50, 2), at(50, 90), 1, 1, true},
		{"the line of one crosses the other one, but not its way", at(0, 0), at(100, 0), at(110, -50), at(110, 50), 5, 5, false},
		{"the line of one crosses the other one, nearer", at(0, 0), at(100, 0), at(110, -50), at(110, 50), 5, 6, true},
		{"two points at the distance", at(0, 0), at(0, 0), at(3, 4), at(3, 4), 2, 3, false},
		{"two points, nearer", at(0, 0), at(0, 0), at(3, 4), at(3, 4), 3, 3, true},
		{"a point twice", at(9, 9), at(9, 9), at(9, 9), at(9, 9), 1, 1, true},
		{"a point beside a way", at(0, 0), at(100, 0), at(60, 2), at(60, 2), 1, 1, false},
		{"a point on a way", at(0, 0), at(100, 0), at(60, 0), at(60, 0), 1, 1, true},
		{"the widest, at the distance", at(-far, 0), at(far, 0), at(0, 32768), at(far, far), 16384, 16384, false},
		{"the widest, nearer", at(-far, 0), at(far, 0), at(0, 32767), at(far, far), 16384, 16384, true},
		{"corner to corner", at(-far, -far), at(-far, far), at(far, -far), at(far, far), 16384, 16384, false},
	} {
		p, q := way(0, x.a, x.b, x.r), way(1, x.c, x.d, x.s)
		checkMeet(t, x.name, p, q, x.want)
		if modelMeet(p, q) != x.want {
			t.Errorf("%s: the model has it otherwise", x.name)
		}
		p.Game = 1
		checkMeet(t, x.name+", of one game", p, q, false)
	}
}

// P8.12: a meeting is the same with both exchanged, and for ways that are turned round.
func checkMeet(t *testing.T, name string, p, q api.Pass, want bool) {
	t.Helper()
	for _, x := range turned(p) {
		for _, y := range turned(q) {
			if met := mustMeet(t, x, y); met != want {
				t.Errorf("%s: Meet(%v, %v): %v", name, x, y, met)
			}
			if met := mustMeet(t, y, x); met != want {
				t.Errorf("%s: Meet(%v, %v): %v", name, y, x, met)
			}
		}
	}
}

// turned returns a pass, and the same one with its way turned round.
func turned(p api.Pass) []api.Pass {
	return passes(p, with(p, func(p *api.Pass) { p.A, p.B = p.B, p.A }))
}

// anyWay returns a pass with a way of a size, and with a radius that may let it meet another one.
func anyWay(r *rand.Rand, game int, size int64) api.Pass {
	place := func() api.Point { return at(from(r, -size, size), from(r, -size, size)) }
	p := way(game, place(), place(), from(r, 1, min(size/4+1, api.MaxBall)))
	switch r.Intn(8) {
	case 0:
		p.B = p.A
	case 1:
		p.B.X = p.A.X
	case 2:
		p.B.Y = p.A.Y
	}
	return p
}

// P8.2, P8.12: passes meet as they do in numbers that are not rounded; exchanged and turned round; and with wider ways still.
func TestMeetOfAll(t *testing.T) {
	r := dice(81)
	met := 0
	for range 6000 {
		size := int64(1) << from(r, 1, 22)
		p, q := anyWay(r, r.Intn(2), size), anyWay(r, 0, size)
		q.Game = 1 - p.Game
		want := modelMeet(p, q)
		checkMeet(t, "any", p, q, want)
		if !want {
			continue
		}
		met++
		p.R, q.R = from(r, p.R, api.MaxBall), from(r, q.R, api.MaxBall)
		checkMeet(t, "wider", p, q, true)
	}
	if met < 1000 || met > 5000 {
		t.Errorf("of 6000 pairs %d meet", met)
	}
}

// P8.2: the least radii with which passes meet.
func TestMeetAtLeast(t *testing.T) {
	r := dice(82)
	for range 1500 {
		size := int64(1) << from(r, 1, 12)
		p, q := anyWay(r, 0, size), anyWay(r, 1, size)
		low, high := int64(0), int64(2*api.MaxBall) // they do not meet with low, and do with high, both together
		for high-low > 1 {
			half := (low + high) / 2
			p.R, q.R = (half+1)/2, max(half/2, 1)
			if modelMeet(p, q) {
				high = half
			} else {
				low = half
			}
		}
		for both := max(low-1, 2); both <= high+1; both++ {
			p.R, q.R = (both+1)/2, both/2
			checkMeet(t, "at the least radii", p, q, both >= high)
		}
	}
}

// P8.2: the properties of a pass other than its game, its way and its radius do not matter.
func TestMeetOthers(t *testing.T) {
	p, q := lane(3, 0, 0, 0, 1), lane(3, 1, 9, api.MaxClock, api.MaxLong)
	checkMeet(t, "other times and ranks", p, q, true)
	q = lane(4, 1, 0, 0, 1)
	checkMeet(t, "the same times and ranks", p, q, false)
}

// P8.6: balls before, beside and behind a way; those that only touch it are not in it.
func TestInWay(t *testing.T) {
	p := way(1, at(0, 0), at(100, 0), 10)
	for _, x := range []struct {
		name   string
		others []api.Disc
		want   []int
	}{
		{"no balls", nil, nil},
		{"an empty list", []api.Disc{}, nil},
		{"on it", []api.Disc{disc(50, 0, 1)}, []int{0}},
		{"touching it beside", []api.Disc{disc(50, 15, 5)}, nil},
		{"nearer beside", []api.Disc{disc(50, -14, 5)}, []int{0}},
		{"touching it behind", []api.Disc{disc(115, 0, 5), disc(-15, 0, 5)}, nil},
		{"nearer behind", []api.Disc{disc(114, 0, 5), disc(-14, 0, 5)}, []int{0, 1}},
		{"touching it aslant", []api.Disc{disc(109, 12, 5), disc(-12, -9, 5)}, nil},
		{"nearer aslant", []api.Disc{disc(109, 12, 6), disc(-12, -9, 6)}, []int{0, 1}},
		{"some of several", []api.Disc{disc(0, 40, 5), disc(60, 3, 5), disc(40, 20, 10), disc(40, 20, 11), disc(500, 500, 5)}, []int{1, 3}},
		{"the same one again", []api.Disc{disc(9, 9, 9), disc(9, 9, 9)}, []int{0, 1}},
		{"as many as there may be", slices.Repeat([]api.Disc{disc(9, 9, 9)}, 12), []int{0, 1, 2, 3, 4, 5, 6, 7, 8, 9, 10, 11}},
		{"greater than a ball", []api.Disc{disc(0, 65546, 65536), disc(0, 65545, 65536)}, []int{1}},
		{"at the border", []api.Disc{disc(far, far, 65536), disc(-far, 0, 1)}, nil},
	} {
		for _, p := range turned(p) {
			if l, e := double.InWay(p, x.others); !slices.Equal(l, x.want) || e != api.OK {
				t.Errorf("%s: InWay(%v, %v): %v, error %d, want %v", x.name, p, x.others, l, e, x.want)
			}
		}
	}
	longest := way(0, at(-far, -far), at(far, far), 16384)
	if l, e := double.InWay(longest, []api.Disc{disc(0, 0, 1), disc(0, 115853, 65536), disc(0, 115852, 65536)}); !slices.Equal(l, []int{0, 2}) || e != api.OK {
		t.Errorf("InWay of the longest way: %v, error %d", l, e)
	}
}

// P8.6: a ball is in the way of a pass as a pass of the other game would be that stays at its place.
func TestInWayOfAll(t *testing.T) {
	r := dice(83)
	count := [2]int{}
	for range 2000 {
		size := int64(1) << from(r, 2, 20)
		p := anyWay(r, r.Intn(2), size)
		var others []api.Disc
		var want []int
		for i := range r.Intn(13) {
			q := anyWay(r, 1-p.Game, size)
			q.B = q.A
			others = append(others, api.Disc{At: q.A, R: q.R})
			if modelMeet(p, q) {
				want = append(want, i)
			}
		}
		count[0], count[1] = count[0]+len(others), count[1]+len(want)
		if l, e := double.InWay(p, others); !slices.Equal(l, want) || e != api.OK {
			t.Errorf("InWay(%v, %v): %v, error %d, want %v", p, others, l, e, want)
		}
	}
	if 10*count[1] < count[0] || 10*count[1] > 9*count[0] {
		t.Errorf("of %d balls %d are in the way", count[0], count[1])
	}
}
