package contact_test

import (
	"testing"

	"roquet/api"
	"roquet/contact"
)

// P3.4: a bounce takes the kick from the first ball and gives it to the second one; places and rests stay.
func TestBounce(t *testing.T) {
	for _, x := range []struct {
		p        pair
		one, two api.Point
	}{
		{straight(at(5888, 0), at(1000000, 0), at(0, 0)), at(100008, 0), at(899992, 0)},
		{straight(at(5888, 0), at(0, 0), at(-1000000, 0)), at(-899992, 0), at(-100008, 0)},
		{straight(at(0, 5888), at(5, 1000000), at(-7, 0)), at(5, 100008), at(-7, 899992)},
		{straight(at(0, -5888), at(0, 400000), at(0, 1400000)), at(0, 1299992), at(0, 500008)},
		{straight(at(5888, 0), at(1, 0), at(0, 0)), at(1, 0), at(0, 0)},
	} {
		x.p.s.Rest, x.p.t.Rest = at(-14400, 14399), at(1, -2)
		s, u, e := x.p.bounce()
		if s.M != x.one || u.M != x.two || e != api.OK {
			t.Errorf("bounce of %v: %v and %v, error %d", x.p, s, u, e)
		}
		x.p.s.M, x.p.t.M = x.one, x.two
		if s != x.p.s || u != x.p.t {
			t.Errorf("%v and %v do not lie as before, as %v and %v", s, u, x.p.s, x.p.t)
		}
	}
}

// P3.4: a momentum may come to the limit, but not beyond it; the kick has no such error.
func TestBounceOver(t *testing.T) {
	heavy, light := api.Ball{Mass: 500, Radius: 2048}, api.Ball{Mass: 400, Radius: 2048}
	for _, way := range []api.Point{at(4096, 0), at(-4096, 0), at(0, 4096), at(0, -4096)} {
		full := at(way.X*4096, way.Y*4096) // as fast as possible
		back := at(-full.X, -full.Y)
		first := pair{heavy, light, motion(at(0, 0), at(0, 0)), motion(way, back), api.Bounce{Rebound: 800}}
		second := pair{light, heavy, motion(at(0, 0), full), motion(way, at(0, 0)), api.Bounce{Rebound: 800}}
		if s, u, e := first.bounce(); s.M != back || u.M != at(0, 0) || e != api.OK {
			t.Errorf("bounce of %v: %v and %v, error %d", first, s, u, e)
		}
		if s, u, e := second.bounce(); s.M != at(0, 0) || u.M != full || e != api.OK {
			t.Errorf("bounce of %v: %v and %v, error %d", second, s, u, e)
		}
		for _, p := range []pair{first, second} {
			p.x.Rebound = 801
			if s, u, e := p.bounce(); s != (api.Motion{}) || u != (api.Motion{}) || e != api.ErrOver {
				t.Errorf("bounce of %v: %v and %v, error %d", p, s, u, e)
			}
			if k, e := p.kick(); k == at(0, 0) || e != api.OK {
				t.Errorf("kick of %v: %v, error %d", p, k, e)
			}
		}
	}
}

// P3.4, P3.9, P3.10: any bounce moves the kick from one ball to the other, keeps the momentum, and makes no energy.
func TestBounceOfAll(t *testing.T) {
	r := dice()
	seen := map[api.Errno]int{}
	for range 40000 {
		p := anyPair(r)
		if r.Intn(4) == 0 {
			p.s.M, p.t.M = at(roll(r, -fast, fast), roll(r, -fast, fast)), at(roll(r, -fast, fast), roll(r, -fast, fast))
		}
		k, want := p.kick()
		one, two := p.s, p.t
		one.M, two.M = minus(one.M, k), plus(two.M, k)
		if want == api.OK && max(amount(one.M.X), amount(one.M.Y), amount(two.M.X), amount(two.M.Y)) > fast {
			want = api.ErrOver
		}
		if want != api.OK {
			one, two = api.Motion{}, api.Motion{}
		}
		seen[want]++
		s, u, e := p.bounce()
		if s != one || u != two || e != want {
			t.Errorf("bounce of %v: %v and %v, error %d, and not %v and %v, error %d", p, s, u, e, one, two, want)
		}
		if e != api.OK {
			continue
		}
		if plus(s.M, u.M) != plus(p.s.M, p.t.M) {
			t.Errorf("bounce of %v: %v and %v have another momentum", p, s, u)
		}
		if workOf(p.a, s, p.b, u).Cmp(workOf(p.a, p.s, p.b, p.t)) > 0 {
			t.Errorf("bounce of %v: %v and %v have more energy", p, s, u)
		}
	}
	if seen[api.OK] < 10000 || seen[api.ErrOver] < 500 {
		t.Errorf("%d bounce, and %d come over the limit", seen[api.OK], seen[api.ErrOver])
	}
}

// P3.11: behind a bounce the urge along the way is at most a little greater.
func TestApart(t *testing.T) {
	r := dice()
	bounces := 0
	for range 40000 {
		p := anyPair(r)
		s, u, e := p.bounce()
		if e != api.OK {
			continue
		}
		bounces++
		n, before := p.way(), big2(p.urge(), p.way())
		p.s, p.t = s, u
		most := sum(before, times(num(p.a.Mass+p.b.Mass), num(amount(n.X)+amount(n.Y))))
		if big2(p.urge(), n).Cmp(most) > 0 {
			t.Errorf("behind the bounce of %v the urge along the way is %v, more than %v", p, big2(p.urge(), n), most)
		}
	}
	if bounces < 10000 {
		t.Errorf("only %d bounces", bounces)
	}
}

// P3.11: of a ball that meets another one of its mass straight, which lies still, only the part that does not rebound is left.
func TestStraight(t *testing.T) {
	r := dice()
	for range 20000 {
		a, b := anyBall(r), anyBall(r)
		b.Mass = a.Mass
		reach := a.Radius + b.Radius
		way := roll(r, (15*reach+15)/16, reach)
		m := roll(r, 1, 1<<roll(r, 0, 24))
		if r.Intn(2) == 0 {
			m, way = -m, -way
		}
		x := api.Bounce{Rebound: roll(r, 0, api.MaxRebound)}
		s, u, e := contact.Bounce(a, motion(at(5, 9), at(m, 0)), b, motion(at(5+way, 9), at(0, 0)), x)
		if e != api.OK || 2000*(amount(s.M.X)-24) > (1000-x.Rebound)*amount(m) || s.M.X+u.M.X != m || s.M.Y != 0 || u.M.Y != 0 {
			t.Errorf("with %d by %d, and %v, %v: %v and %v, error %d", m, way, x, a, s, u, e)
		}
	}
}

// P3.5: a ball bounces off a disc, straight and across, and keeps its place and its rest.
func TestBump(t *testing.T) {
	for _, x := range []struct {
		m    api.Point
		d    api.Disc
		x    api.Bounce
		want api.Point
	}{
		{at(1000000, 0), disc(3000, 0, 56), lively(), at(-798200, 0)},
		{at(-1000000, 0), disc(-3000, 0, 56), lively(), at(798200, 0)},
		{at(0, 1000000), disc(0, 3000, 56), lively(), at(0, -798200)},
		{at(1000000, 500), disc(3000, 0, 56), lively(), at(-798200, 500)},
		{at(1000000, 600000), disc(3000, 0, 56), api.Bounce{Rebound: 800, Drag: 100}, at(-798200, 540000)},
		{at(1000000, 600000), disc(3000, 0, 56), api.Bounce{Drag: 300}, at(1000, 420000)},
		{at(2999, 0), disc(3000, 0, 56), lively(), at(2999, 0)}, // too little to be felt
		{at(3000, 0), disc(3000, 0, 56), lively(), at(-2400, 0)},
		{at(300, 400), disc(1800, 2400, 56), lively(), at(300, 400)},
		{at(3000, 4000), disc(1800, 2400, 56), lively(), at(-240, -320)},
		{at(fast, 0), disc(3000, 0, 56), api.Bounce{Rebound: 950}, at(-15935984, 0)},
	} {
		s := api.Motion{M: x.m, Rest: at(-14400, 14399)}
		want := api.Motion{M: x.want, Rest: s.Rest}
		if got, e := contact.Bump(ball(), s, x.d, x.x); got != want || e != api.OK {
			t.Errorf("Bump of %v and %v, with %v: %v, error %d", x.m, x.d, x.x, got, e)
		}
	}
}

// P3.5: when a ball and a disc are not in contact, or do not approach, at the edges.
func TestBumpErrors(t *testing.T) {
	for _, x := range []struct {
		m    api.Point
		d    api.Disc
		want api.Errno
	}{
		{at(9000, 0), disc(3000, 0, 56), api.OK},
		{at(9000, 0), disc(3001, 0, 56), api.ErrNone},
		{at(9000, 0), disc(3000, 1, 56), api.ErrNone},
		{at(9000, 0), disc(3001, 0, 57), api.OK},
		{at(9000, 0), disc(2813, 0, 56), api.OK}, // 15 / 16 of 3,000 is 2,812.5
		{at(9000, 0), disc(2812, 0, 56), api.ErrNone},
		{at(9000, 0), disc(1800, 2400, 56), api.OK},
		{at(9000, 0), disc(1800, 2401, 56), api.ErrNone},
		{at(9000, 0), disc(0, 0, 56), api.ErrNone},
		{at(-9000, 0), disc(3000, 0, 56), api.ErrState},
		{at(-9000, 0), disc(3001, 0, 56), api.ErrNone},
		{at(0, 0), disc(3000, 0, 56), api.ErrState},
		{at(0, 9000), disc(3000, 0, 56), api.ErrState},
		{at(2400, -1800), disc(1800, 2400, 56), api.ErrState},
		{at(2401, -1800), disc(1800, 2400, 56), api.OK},
		{at(2399, -1800), disc(1800, 2400, 56), api.ErrState},
		{at(9000, 0), disc(68480, 0, api.MaxRadius), api.OK},
		{at(9000, 0), disc(68481, 0, api.MaxRadius), api.ErrNone},
		{at(9000, 0), disc(2761, 0, 1), api.OK},
		{at(9000, 0), disc(2760, 0, 1), api.ErrNone},
		{at(9000, 0), disc(far, far, 1), api.ErrNone},
	} {
		s, e := contact.Bump(ball(), motion(at(0, 0), x.m), x.d, lively())
		if e != x.want || e != api.OK && s != (api.Motion{}) {
			t.Errorf("Bump of %v and %v: %v, error %d", x.m, x.d, s, e)
		}
	}
}

// P3.5, P3.10: any ball and any disc, as it is defined; the momentum does not become longer, but a number of it may come over the limit.
func TestBumpOfAll(t *testing.T) {
	r := dice()
	seen := map[api.Errno]int{}
	limit, greater := 0, 0
	for range 60000 {
		b, x := anyBall(r), anyBounce(r)
		d := disc(roll(r, -far, far), roll(r, -far, far), roll(r, 1, 1<<roll(r, 0, 16)))
		s := anyMotion(r, b, beside(r, d.At, d.R, b.Radius))
		if contact.CheckMotion(b, s) != api.OK {
			continue
		}
		n := minus(d.At, s.At)
		switch r.Intn(4) {
		case 0:
			// Less along the way would be too little to be felt.
			s.M, x = plus(graze(r, n, 100), n), api.Bounce{Rebound: api.MaxRebound}
		case 1:
			s.M = at(roll(r, -fast, fast), fast)
		}
		want, wantError := s, api.OK
		if big2(s.M, n).Sign() <= 0 {
			want, wantError = api.Motion{}, api.ErrState
		} else {
			k, halved := kickOf(n, s.M, 1, x)
			want.M = minus(s.M, k)
			if halved > 0 {
				greater++
			}
			if most := max(amount(want.M.X), amount(want.M.Y)); most > fast {
				want, wantError = api.Motion{}, api.ErrOver
			} else if most == fast {
				limit++
			}
		}
		seen[wantError]++
		got, e := contact.Bump(b, s, d, x)
		if got != want || e != wantError {
			t.Errorf("Bump(%v, %v, %v, %v): %v, error %d, and not %v, error %d", b, s, d, x, got, e, want, wantError)
		}
		if e == api.OK && big2(got.M, got.M).Cmp(big2(s.M, s.M)) > 0 {
			t.Errorf("Bump(%v, %v, %v, %v): %v is faster", b, s, d, x, got)
		}
	}
	if seen[api.OK] < 10000 || seen[api.ErrState] < 10000 || seen[api.ErrOver] < 500 || limit == 0 || greater < 100 {
		t.Errorf("errors %v, %d at the limit, and %d kicks were too great", seen, limit, greater)
	}
}

// P3.5: a number of the new momentum may come to the limit, and not beyond it.
func TestBumpOver(t *testing.T) {
	d := disc(2600, -1400, 56)
	mirrored := disc(-1400, -2600, 56)
	for _, y := range []int64{7007176, 7009696} {
		for _, x := range []struct {
			m, want api.Point
			d       api.Disc
			error   api.Errno
		}{
			{at(fast, y), at(0, fast), d, api.OK},
			{at(fast, y+1), at(0, 0), d, api.ErrOver},
			{at(y, -fast), at(fast, 0), mirrored, api.OK},
			{at(y+1, -fast), at(0, 0), mirrored, api.ErrOver},
		} {
			s, e := contact.Bump(ball(), motion(at(0, 0), x.m), x.d, lively())
			if e != x.error || x.want.X != 0 && s.M.X != x.want.X || x.want.Y != 0 && s.M.Y != x.want.Y || e != api.OK && s != (api.Motion{}) {
				t.Errorf("Bump of %v and %v: %v, error %d", x.m, x.d, s, e)
			}
		}
	}
}
