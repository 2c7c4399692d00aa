package contact_test

import (
	"testing"

	"roquet/api"
	"roquet/contact"
)

// straight returns two balls of the examples, the second one at p, with these momenta.
func straight(p, m, k api.Point) pair {
	return pair{ball(), ball(), motion(at(0, 0), m), motion(p, k), lively()}
}

// P3.4: kicks, along X, along Y and across, with and without Drag.
func TestKick(t *testing.T) {
	drag := func(p pair, rebound, drag int64) pair {
		p.x = api.Bounce{Rebound: rebound, Drag: drag}
		return p
	}
	for _, x := range []struct {
		p    pair
		want api.Point
	}{
		{straight(at(5888, 0), at(1000000, 0), at(0, 0)), at(899992, 0)},
		{straight(at(-5888, 0), at(-1000000, 0), at(0, 0)), at(-899992, 0)},
		{straight(at(0, 5888), at(0, 1000000), at(0, 0)), at(0, 899992)},
		{straight(at(5888, 0), at(0, 0), at(-1000000, 0)), at(899992, 0)},
		{straight(at(5888, 0), at(1000000, 777777), at(0, 0)), at(899992, 0)}, // only what goes along the way
		{drag(straight(at(5888, 0), at(1000000, 777777), at(0, 0)), 800, 300), at(899992, 116664)},
		{drag(straight(at(5888, 0), at(1000000, -777777), at(0, 0)), 800, 300), at(899992, -116664)},
		{drag(straight(at(5888, 0), at(1000000, 777777), at(0, 0)), 0, 100), at(499995, 38888)},
		{drag(straight(at(5888, 0), at(1000000, 0), at(0, 0)), 0, 0), at(499995, 0)},
		{drag(straight(at(5888, 0), at(1000000, 0), at(0, 0)), 950, 0), at(974991, 0)},
		{straight(at(5888, 0), at(1, 0), at(0, 0)), at(0, 0)}, // they approach, but by too little
		{straight(at(5888, 0), at(13, 0), at(0, 0)), at(0, 0)},
		{straight(at(5888, 0), at(14, 0), at(0, 0)), at(11, 0)}, // 1 of 1.07
	} {
		if k, e := x.p.kick(); k != x.want || e != api.OK {
			t.Errorf("kick of %v: %v, error %d", x.p, k, e)
		}
	}
}

// P3.4: both masses count, in the urge and below the kick.
func TestKickByMass(t *testing.T) {
	for _, x := range []struct {
		a, b int64
		want api.Point
	}{
		{400, 400, at(900000, 0)}, {400, 500, at(1000000, 0)}, {500, 400, at(800000, 0)},
	} {
		p := straight(at(4000, 0), at(1000000, 0), at(0, 0))
		p.a, p.b = api.Ball{Mass: x.a, Radius: 2000}, api.Ball{Mass: x.b, Radius: 2000}
		if k, e := p.kick(); k != x.want || e != api.OK {
			t.Errorf("kick of %d and %d g: %v, error %d", x.a, x.b, k, e)
		}
	}
}

// P3.4: what is in contact, and what is not, to the last unit.
func TestContact(t *testing.T) {
	for _, x := range []struct {
		p, m api.Point
		r, s int64
		want api.Errno
	}{
		{at(5888, 0), at(5888, 0), 2944, 2944, api.OK},
		{at(5889, 0), at(5889, 0), 2944, 2944, api.ErrNone},
		{at(5888, 1), at(5888, 0), 2944, 2944, api.ErrNone},
		{at(5889, 0), at(5889, 0), 2944, 2945, api.OK},
		{at(5520, 0), at(5520, 0), 2944, 2944, api.OK},
		{at(5519, 0), at(5519, 0), 2944, 2944, api.ErrNone},
		{at(5519, 106), at(5519, 0), 2944, 2944, api.OK},
		{at(5519, 105), at(5519, 0), 2944, 2944, api.ErrNone},
		{at(0, 5521), at(0, 5521), 2944, 2945, api.OK}, // 15 / 16 of 5,889 is more than 5,520
		{at(0, 5520), at(0, 5520), 2944, 2945, api.ErrNone},
		{at(3000, 4000), at(3000, 4000), 2500, 2500, api.OK},
		{at(-3000, 4000), at(-3000, 4000), 1000, 4000, api.OK},
		{at(3001, 4000), at(3000, 4000), 2500, 2500, api.ErrNone},
		{at(2812, 3751), at(1, 1), 2500, 2500, api.OK}, // 4,687.5 is the least distance
		{at(2812, 3750), at(1, 1), 2500, 2500, api.ErrNone},
		{at(0, 0), at(9, 9), 2944, 2944, api.ErrNone},
		{at(1875, 0), at(9, 9), 1000, 1000, api.OK},
		{at(0, 8192), at(9, 9), 4096, 4096, api.OK},
		{at(far, far), at(9, 9), 4096, 4096, api.ErrNone},
	} {
		p := straight(x.p, x.m, at(0, 0))
		p.a.Radius, p.b.Radius = x.r, x.s
		if _, e := p.kick(); e != x.want {
			t.Errorf("kick of %v: error %d", p, e)
		}
		if _, _, e := p.bounce(); e != x.want {
			t.Errorf("bounce of %v: error %d", p, e)
		}
	}
}

// P3.4: balls that do not approach; ErrNone comes before that.
func TestApproach(t *testing.T) {
	for _, x := range []struct {
		p, m, k api.Point
		want    api.Errno
	}{
		{at(5888, 0), at(-1000000, 0), at(0, 0), api.ErrState},
		{at(5889, 0), at(-1000000, 0), at(0, 0), api.ErrNone},
		{at(5519, 0), at(-1000000, 0), at(0, 0), api.ErrNone},
		{at(5888, 0), at(0, 0), at(0, 0), api.ErrState},
		{at(5888, 0), at(500, 70), at(500, -70), api.ErrState}, // side by side
		{at(5888, 0), at(501, 70), at(500, -70), api.OK},
		{at(5888, 0), at(499, 70), at(500, -70), api.ErrState},
		{at(5888, 0), at(0, fast), at(0, 0), api.ErrState}, // across
		{at(3532, 4710), at(4710, -3532), at(0, 0), api.ErrState},
		{at(3532, 4710), at(4710, -3531), at(0, 0), api.OK},
		{at(3532, 4710), at(4709, -3532), at(0, 0), api.ErrState},
		{at(5888, 0), at(-fast, 0), at(-fast, 0), api.ErrState},
		{at(5888, 0), at(-fast+1, 0), at(-fast, 0), api.OK},
	} {
		p := straight(x.p, x.m, x.k)
		if k, e := p.kick(); e != x.want || e != api.OK && k != (api.Point{}) {
			t.Errorf("kick of %v: %v, error %d", p, k, e)
		}
		if s, u, e := p.bounce(); e != x.want || e != api.OK && (s != api.Motion{} || u != api.Motion{}) {
			t.Errorf("bounce of %v: %v and %v, error %d", p, s, u, e)
		}
	}
	p := straight(at(5888, 0), at(500, 0), at(600, 0)) // slower, but by its mass it has the greater speed
	p.a.Mass, p.b.Mass = 400, 500
	if _, e := p.kick(); e != api.OK {
		t.Errorf("kick of a lighter ball: error %d", e)
	}
	p.a.Mass, p.b.Mass = 500, 400
	if _, e := p.kick(); e != api.ErrState {
		t.Errorf("kick of a heavier ball: error %d", e)
	}
}

// P3.4: kicks that would make energy are halved, towards 0, until they do not.
func TestKickHalved(t *testing.T) {
	for _, x := range []struct{ n, m, want api.Point }{
		{at(-5884, 22), at(-24, 1398), at(-12, 0)}, // once
		{at(-5881, -8), at(-27, -9842), at(-19, 0)},
		{at(-5823, -462), at(-743, 8979), at(-6, 0)}, // twice
		{at(-5859, -271), at(-8, -709), at(-4, 0)},   // three times
		{at(-5815, 195), at(-2, 939), at(-1, 0)},     // four times
		{at(-5883, -29), at(10, -5145), at(0, 0)},    // until nothing is left
	} {
		for _, sign := range []int64{1, -1} {
			p := straight(at(sign*x.n.X, x.n.Y), at(sign*x.m.X, x.m.Y), at(0, 0))
			p.x = api.Bounce{Rebound: 950}
			if k, e := p.kick(); k != at(sign*x.want.X, x.want.Y) || e != api.OK {
				t.Errorf("kick of %v: %v, error %d", p, k, e)
			}
		}
	}
}

// P3.4: kicks of balls that graze each other, as they are defined: halved once, more often, and until nothing is left.
func TestKickTooGreat(t *testing.T) {
	r := dice()
	once, often, nothing := 0, 0, 0
	for range 60000 {
		p := anyPair(r)
		p.s.M, p.t.M = graze(r, p.way(), 40), at(0, 0)
		if !p.approach() {
			continue
		}
		want, halved := kickOf(p.way(), p.urge(), p.a.Mass+p.b.Mass, p.x)
		if k, e := p.kick(); k != want || e != api.OK {
			t.Errorf("kick of %v: %v, error %d, and not %v, which was halved %d times", p, k, e, want, halved)
		}
		switch {
		case halved > 0 && want == at(0, 0):
			nothing++
		case halved > 1:
			often++
		case halved == 1:
			once++
		}
	}
	if once < 50 || often < 5 || nothing < 50 {
		t.Errorf("%d were halved once, %d more often, and of %d nothing was left", once, often, nothing)
	}
}

// P3.4: any balls, near to each other, as it is defined: in contact, approaching, and their kick.
func TestKickOfAll(t *testing.T) {
	r := dice()
	seen := map[api.Errno]int{}
	for k := range 40000 {
		p := anyPair(r)
		if k%4 == 0 {
			p.t.At = plus(p.t.At, at(roll(r, -200, 200), roll(r, -200, 200)))
		}
		want, e := at(0, 0), api.OK
		switch {
		case !inContact(p.way(), p.a.Radius+p.b.Radius):
			e = api.ErrNone
		case !p.approach():
			e = api.ErrState
		default:
			want, _ = kickOf(p.way(), p.urge(), p.a.Mass+p.b.Mass, p.x)
		}
		seen[e]++
		if by, e2 := p.kick(); by != want || e2 != e {
			t.Errorf("kick of %v: %v, error %d, and not %v, error %d", p, by, e2, want, e)
		}
	}
	for _, e := range []api.Errno{api.OK, api.ErrNone, api.ErrState} {
		if seen[e] < 2000 {
			t.Errorf("error %d came only %d times", e, seen[e])
		}
	}
}

// P3.4: the greatest urges fit, for all masses and ways.
func TestKickLimits(t *testing.T) {
	r := dice()
	for k := range 20000 {
		corner := func() api.Point { return at(fast*int64(r.Intn(3)-1), fast*int64(r.Intn(3)-1)) }
		p := anyPair(r)
		p.s.M, p.t.M = corner(), corner()
		if k%2 == 0 {
			p.a.Mass, p.b.Mass = 500, 500
			p.t.M = at(-p.s.M.X, -p.s.M.Y)
		}
		if !p.approach() {
			continue
		}
		want, _ := kickOf(p.way(), p.urge(), p.a.Mass+p.b.Mass, p.x)
		if by, e := p.kick(); by != want || e != api.OK {
			t.Errorf("kick of %v: %v, error %d, and not %v", p, by, e, want)
		}
	}
}

// P3.12: with X and Y exchanged they are exchanged in a kick; with the other sign for all X it has the other sign in X.
func TestKickMirrored(t *testing.T) {
	exchange := func(p api.Point) api.Point { return at(p.Y, p.X) }
	mirror := func(p api.Point) api.Point { return at(-p.X, p.Y) }
	seen := func(p pair, as func(api.Point) api.Point) pair {
		p.s = motion(as(p.s.At), as(p.s.M))
		p.t = motion(as(p.t.At), as(p.t.M))
		return p
	}
	r := dice()
	kicks := 0
	for range 20000 {
		p := anyPair(r)
		k, e := p.kick()
		if e == api.OK {
			kicks++
		}
		for _, as := range []func(api.Point) api.Point{exchange, mirror} {
			if k2, e2 := seen(p, as).kick(); k2 != as(k) || e2 != e {
				t.Errorf("kick of %v: %v, error %d, but mirrored %v, error %d", p, k, e, k2, e2)
			}
		}
	}
	if kicks < 5000 {
		t.Errorf("only %d kicks", kicks)
	}
}

// P3.4: rests do not matter for a kick, nor where both balls are together.
func TestKickElsewhere(t *testing.T) {
	r := dice()
	for range 5000 {
		p := anyPair(r)
		k, e := p.kick()
		by := at(roll(r, -4000, 4000), roll(r, -4000, 4000))
		p.s = api.Motion{At: plus(p.s.At, by), M: p.s.M, Rest: anyRest(r, p.a)}
		p.t = api.Motion{At: plus(p.t.At, by), M: p.t.M, Rest: anyRest(r, p.b)}
		if contact.CheckMotion(p.a, p.s) != api.OK || contact.CheckMotion(p.b, p.t) != api.OK {
			continue
		}
		if k2, e2 := p.kick(); k2 != k || e2 != e {
			t.Errorf("kick of %v: %v, error %d, but elsewhere %v, error %d", p, k2, e2, k, e)
		}
	}
}
