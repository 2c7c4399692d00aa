package contact_test

import (
	"math"
	"math/big"
	"testing"

	"roquet/api"
	"roquet/contact"
)

// P3.2: steps forward and backward, with halves, and with rests that count.
func TestStep(t *testing.T) {
	for _, x := range []struct{ s, want api.Motion }{
		{motion(at(0, 0), at(28800, 100)), api.Motion{At: at(1, 0), M: at(28800, 100), Rest: at(0, 100)}},
		{motion(at(7, 7), at(0, 0)), motion(at(7, 7), at(0, 0))},
		{motion(at(5, 5), at(-28800, -57600)), motion(at(4, 3), at(-28800, -57600))},
		{motion(at(0, 0), at(14399, 14400)), api.Motion{At: at(0, 1), M: at(14399, 14400), Rest: at(14399, -14400)}},
		{motion(at(0, 0), at(-14400, -14401)), api.Motion{At: at(0, -1), M: at(-14400, -14401), Rest: at(-14400, 14399)}},
		{api.Motion{M: at(28700, -28700), Rest: at(100, -100)}, api.Motion{At: at(1, -1), M: at(28700, -28700)}},
		{api.Motion{M: at(1, -1), Rest: at(14399, -14400)}, api.Motion{At: at(1, -1), M: at(1, -1), Rest: at(-14400, 14399)}},
		{api.Motion{Rest: at(14399, -14400)}, api.Motion{Rest: at(14399, -14400)}}, // a ball that lies still keeps its rest
		{motion(at(0, 0), at(fast, -fast)), api.Motion{At: at(583, -583), M: at(fast, -fast), Rest: at(-13184, 13184)}},
		{motion(at(far-1, -far+1), at(28800, -28800)), motion(at(far, -far), at(28800, -28800))},
		{motion(at(far, -far), at(14399, -14400)), api.Motion{At: at(far, -far), M: at(14399, -14400), Rest: at(14399, -14400)}},
	} {
		if s, e := contact.Step(ball(), x.s); s != x.want || e != api.OK {
			t.Errorf("Step of %v: %v, error %d", x.s, s, e)
		}
	}
	for _, s := range []api.Motion{
		motion(at(far, 0), at(14400, 0)), motion(at(0, far), at(0, 14400)),
		motion(at(-far, 0), at(-14401, 0)), motion(at(0, -far), at(0, -14401)),
		motion(at(far, 0), at(fast, 0)), {At: at(0, far), M: at(0, 1), Rest: at(0, 14399)},
	} {
		if next, e := contact.Step(ball(), s); next != (api.Motion{}) || e != api.ErrOver {
			t.Errorf("Step of %v: %v, error %d", s, next, e)
		}
	}
}

// P3.2: the mass of the ball decides how far it goes.
func TestStepByMass(t *testing.T) {
	for mass, want := range map[int64]api.Motion{
		400: {At: at(4, 0), M: at(102400, 0)},
		450: {At: at(4, 0), M: at(102400, 0), Rest: at(-12800, 0)},
		500: {At: at(3, 0), M: at(102400, 0), Rest: at(6400, 0)},
	} {
		if s, e := contact.Step(api.Ball{Mass: mass, Radius: 2944}, motion(at(0, 0), at(102400, 0))); s != want || e != api.OK {
			t.Errorf("Step with the mass %d: %v, error %d", mass, s, e)
		}
	}
}

// P3.2: a tick is 16 steps, and ticks are as many at once; what goes too far in one step does so in all.
func TestTick(t *testing.T) {
	s, e := contact.Tick(ball(), motion(at(0, 0), at(1800, -900)), 1)
	if want := (api.Motion{At: at(1, 0), M: at(1800, -900), Rest: at(0, -14400)}); s != want || e != api.OK {
		t.Errorf("Tick: %v, error %d", s, e)
	}
	r := dice()
	over := 0
	for range 400 {
		b := anyBall(r)
		start := anyMotion(r, b, at(roll(r, -far, far), roll(r, -far, far)))
		if r.Intn(2) == 0 {
			start.At.Y = far - roll(r, 0, 1000)
		}
		ticks := int(roll(r, 0, 40))
		if r.Intn(20) == 0 {
			ticks = 1000
		}
		want, wantError := start, api.OK
		for range 16 * ticks {
			if want, wantError = contact.Step(b, want); wantError != api.OK {
				over++
				break
			}
		}
		if s, e := contact.Tick(b, start, ticks); s != want || e != wantError {
			t.Errorf("Tick(%v, %v, %d): %v, error %d, but the steps come to %v, error %d", b, start, ticks, s, e, want, wantError)
		}
	}
	if over < 10 || over > 300 {
		t.Errorf("%d of 400 go too far", over)
	}
}

// P3.2: ticks at the limits, beyond them, and over the edge.
func TestTickLimits(t *testing.T) {
	slow := motion(at(5, -5), at(1800, -1800))
	for _, ticks := range []int{0, 1, 999, 1000} {
		want := motion(at(5+int64(ticks), -5-int64(ticks)), slow.M)
		if s, e := contact.Tick(ball(), slow, ticks); s != want || e != api.OK {
			t.Errorf("%d ticks: %v, error %d", ticks, s, e)
		}
	}
	for _, ticks := range []int{-1, 1001, math.MaxInt, math.MinInt, math.MaxInt32} {
		if s, e := contact.Tick(ball(), slow, ticks); s != (api.Motion{}) || e != api.ErrRange {
			t.Errorf("%d ticks: %v, error %d", ticks, s, e)
		}
	}
	edge := motion(at(far-100, 0), at(1800, 0))
	if s, e := contact.Tick(ball(), edge, 100); s.At != at(far, 0) || e != api.OK {
		t.Errorf("100 ticks to the limit: %v, error %d", s, e)
	}
	for _, ticks := range []int{101, 1000} {
		if s, e := contact.Tick(ball(), edge, ticks); s != (api.Motion{}) || e != api.ErrOver {
			t.Errorf("%d ticks over the limit: %v, error %d", ticks, s, e)
		}
	}
	if s, e := contact.Tick(ball(), motion(at(far, far), at(0, 0)), 1000); s.At != at(far, far) || e != api.OK {
		t.Errorf("a ball that lies still at the limit: %v, error %d", s, e)
	}
	if s, e := contact.Tick(ball(), motion(at(-far, 0), at(fast, 0)), 1000); s != (api.Motion{}) || e != api.ErrOver {
		t.Errorf("a ball that goes over the whole of it: %v, error %d", s, e)
	}
}

// P3.8: behind any number of steps nothing is lost of the way, whether they are taken alone or together.
func TestNothingIsLost(t *testing.T) {
	r := dice()
	for range 300 {
		b := anyBall(r)
		start := anyMotion(r, b, at(roll(r, -1000, 1000), roll(r, -1000, 1000)))
		n := roll(r, 1, 500)
		s, e := start, api.OK
		for range n {
			if s, e = contact.Step(b, s); e != api.OK {
				t.Fatalf("Step(%v, %v): error %d", b, s, e)
			}
		}
		kept(t, b, start, s, n)
		ticks := roll(r, 0, 400)
		if s, e = contact.Tick(b, start, int(ticks)); e != api.OK {
			t.Fatalf("Tick(%v, %v, %d): error %d", b, start, ticks, e)
		}
		kept(t, b, start, s, 16*ticks)
	}
}

// kept fails if a motion that began as start and went on for n steps lost something.
func kept(t *testing.T, b api.Ball, start, s api.Motion, n int64) {
	t.Helper()
	way := minus(s.At, start.At)
	x := 64*b.Mass*way.X + s.Rest.X - n*start.M.X - start.Rest.X
	y := 64*b.Mass*way.Y + s.Rest.Y - n*start.M.Y - start.Rest.Y
	if x != 0 || y != 0 || s.M != start.M || contact.CheckMotion(b, s) != api.OK {
		t.Errorf("%d steps of %v, with %v: %v, but for (%d, %d)", n, start, b, s, x, y)
	}
}

// P3.3: momenta that are slowed, all of them and a part, towards 0.
func TestSlow(t *testing.T) {
	for _, x := range []struct {
		m    api.Point
		loss int64
		want api.Point
	}{
		{at(300, 400), 100, at(240, 320)},
		{at(300, 400), 500, at(0, 0)},
		{at(300, 400), 501, at(0, 0)},
		{at(300, 400), 499, at(0, 0)}, // 0.6 and 0.8
		{at(300, 400), 498, at(1, 1)}, // 1.2 and 1.6
		{at(-300, -400), 498, at(-1, -1)},
		{at(-300, 400), 100, at(-240, 320)},
		{at(300, 400), 0, at(300, 400)},
		{at(0, 0), 0, at(0, 0)},
		{at(0, 0), 1 << 25, at(0, 0)},
		{at(1, 0), 0, at(1, 0)},
		{at(1, 0), 1, at(0, 0)},
		{at(1, 1), 1, at(0, 0)},     // 8 times the length is 11
		{at(10, 10), 14, at(0, 0)},  // 8 times the length is 113, of which 1 is left
		{at(99, 99), 139, at(0, 0)}, // 8 of 1,120
		{at(99, 99), 138, at(1, 1)},
		{at(7, -7), 8, at(1, -1)}, // 15 of 79, as the root is rounded
		{at(1000, -3), 1, at(999, -2)},
		{at(fast, -fast), 0, at(fast, -fast)},
		{at(fast, fast), 1 << 25, at(0, 0)},
		{at(fast, -fast), 1 << 24, at(4913932, -4913932)},
		{at(fast, 0), 1<<24 - 1, at(1, 0)},
		{at(0, -fast), 1 << 24, at(0, 0)},
	} {
		if m, e := contact.Slow(x.m, x.loss); m != x.want || e != api.OK {
			t.Errorf("Slow(%v, %d): %v, error %d", x.m, x.loss, m, e)
		}
	}
}

// P3.3, P3.10: any momentum is slowed as it is defined, and is never made longer.
func TestSlowOfAll(t *testing.T) {
	r := dice()
	for range 20000 {
		m, loss := anyMomentum(r), roll(r, 0, 1<<roll(r, 0, 25))
		length := new(big.Int).Sqrt(times(num(64), big2(m, m)))
		left := less(length, num(8*loss))
		want := at(0, 0)
		if left.Sign() > 0 {
			part := func(n int64) int64 { return new(big.Int).Quo(times(num(n), left), length).Int64() }
			want = at(part(m.X), part(m.Y))
		}
		got, e := contact.Slow(m, loss)
		if got != want || e != api.OK || big2(got, got).Cmp(big2(m, m)) > 0 {
			t.Errorf("Slow(%v, %d): %v, error %d, and not %v", m, loss, got, e, want)
		}
	}
}

// P3.3: momenta and losses that are not possible, in the order of the errors.
func TestSlowErrors(t *testing.T) {
	momenta := []api.Point{at(fast+1, 0), at(0, fast+1), at(-fast-1, 0), at(0, -fast-1)}
	losses := []int64{-1, 1<<25 + 1}
	for _, n := range badNumbers() {
		momenta = append(momenta, at(n, 0), at(0, n))
		losses = append(losses, n)
	}
	for _, loss := range losses {
		if m, e := contact.Slow(at(3, 4), loss); m != (api.Point{}) || e != api.ErrRange {
			t.Errorf("Slow by %d: %v, error %d", loss, m, e)
		}
		for _, bad := range momenta {
			if m, e := contact.Slow(bad, loss); m != (api.Point{}) || e != api.ErrArg {
				t.Errorf("Slow(%v, %d): %v, error %d", bad, loss, m, e)
			}
		}
	}
	for _, bad := range momenta {
		if m, e := contact.Slow(bad, 5); m != (api.Point{}) || e != api.ErrArg {
			t.Errorf("Slow(%v, 5): %v, error %d", bad, m, e)
		}
	}
}
