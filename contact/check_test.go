package contact_test

import (
	"testing"

	"roquet/api"
	"roquet/contact"
)

// P3.1: balls at the limits, and just beyond them.
func TestCheckBall(t *testing.T) {
	good := []api.Ball{ball(), {Mass: api.MinMass, Radius: api.MinRadius}, {Mass: api.MaxMass, Radius: api.MaxGirth}}
	for _, b := range good {
		if e := contact.CheckBall(b); e != api.OK {
			t.Errorf("CheckBall(%v): error %d", b, e)
		}
	}
	for _, b := range badBalls() {
		if e := contact.CheckBall(b); e != api.ErrArg {
			t.Errorf("CheckBall(%v): error %d", b, e)
		}
	}
}

// badBalls are balls each of which is not valid in one number.
func badBalls() []api.Ball {
	l := []api.Ball{
		{}, {Mass: api.MinMass - 1, Radius: 2944}, {Mass: api.MaxMass + 1, Radius: 2944},
		{Mass: 450, Radius: api.MinRadius - 1}, {Mass: 450, Radius: api.MaxGirth + 1},
		{Mass: -450, Radius: 2944}, {Mass: 450, Radius: -2944},
	}
	for _, n := range badNumbers() {
		l = append(l, api.Ball{Mass: n, Radius: 2944}, api.Ball{Mass: 450, Radius: n})
	}
	return l
}

// P3.1: motions at the limits, which for rests depend on the mass of the ball.
func TestCheckMotion(t *testing.T) {
	light, heavy := api.Ball{Mass: 400, Radius: 2944}, api.Ball{Mass: 500, Radius: 2944}
	for _, x := range []struct {
		b    api.Ball
		s    api.Motion
		want api.Errno
	}{
		{ball(), api.Motion{}, api.OK},
		{ball(), motion(at(far, -far), at(fast, -fast)), api.OK},
		{ball(), motion(at(-far, far), at(-fast, fast)), api.OK},
		{ball(), api.Motion{Rest: at(-14400, 14399)}, api.OK},
		{ball(), api.Motion{Rest: at(14399, -14400)}, api.OK},
		{ball(), api.Motion{Rest: at(14400, 0)}, api.ErrArg},
		{ball(), api.Motion{Rest: at(0, 14400)}, api.ErrArg},
		{ball(), api.Motion{Rest: at(-14401, 0)}, api.ErrArg},
		{ball(), api.Motion{Rest: at(0, -14401)}, api.ErrArg},
		{light, api.Motion{Rest: at(12799, -12800)}, api.OK},
		{light, api.Motion{Rest: at(12800, 0)}, api.ErrArg},
		{light, api.Motion{Rest: at(0, -12801)}, api.ErrArg},
		{heavy, api.Motion{Rest: at(15999, -16000)}, api.OK},
		{heavy, api.Motion{Rest: at(0, 16000)}, api.ErrArg},
		{heavy, api.Motion{Rest: at(-16001, 0)}, api.ErrArg},
	} {
		if e := contact.CheckMotion(x.b, x.s); e != x.want {
			t.Errorf("CheckMotion(%v, %v): error %d", x.b, x.s, e)
		}
	}
	for _, s := range badMotions() {
		if e := contact.CheckMotion(ball(), s); e != api.ErrArg {
			t.Errorf("CheckMotion of %v: error %d", s, e)
		}
	}
	for _, b := range badBalls() {
		if e := contact.CheckMotion(b, api.Motion{}); e != api.ErrArg {
			t.Errorf("CheckMotion of the ball %v: error %d", b, e)
		}
	}
}

// badMotions are motions each of which is not valid in one number, for any ball.
func badMotions() []api.Motion {
	var l []api.Motion
	add := func(n int64, to func(p api.Point) api.Motion) {
		l = append(l, to(at(n, 0)), to(at(0, n)))
	}
	place := func(p api.Point) api.Motion { return api.Motion{At: p} }
	momentum := func(p api.Point) api.Motion { return api.Motion{M: p} }
	rest := func(p api.Point) api.Motion { return api.Motion{Rest: p} }
	for _, n := range badNumbers() {
		add(n, place)
		add(n, momentum)
		add(n, rest)
	}
	for _, sign := range []int64{1, -1} {
		add(sign*(far+1), place)
		add(sign*(fast+1), momentum)
		add(sign*16001, rest)
	}
	return l
}

// P3.1: bounces at the limits, and just beyond them.
func TestCheckBounce(t *testing.T) {
	for _, x := range []api.Bounce{{}, lively(), {Rebound: api.MaxRebound, Drag: api.MaxLost}, {Rebound: 950, Drag: 300}} {
		if e := contact.CheckBounce(x); e != api.OK {
			t.Errorf("CheckBounce(%v): error %d", x, e)
		}
	}
	for _, x := range badBounces() {
		if e := contact.CheckBounce(x); e != api.ErrArg {
			t.Errorf("CheckBounce(%v): error %d", x, e)
		}
	}
}

// badBounces are bounces each of which is not valid in one number.
func badBounces() []api.Bounce {
	l := []api.Bounce{{Rebound: -1}, {Rebound: 951}, {Drag: -1}, {Drag: 301}}
	for _, n := range badNumbers() {
		l = append(l, api.Bounce{Rebound: n}, api.Bounce{Drag: n})
	}
	return l
}

// badDiscs are discs each of which is not valid in one number.
func badDiscs() []api.Disc {
	l := []api.Disc{{}, disc(0, 0, -1), disc(0, 0, api.MaxRadius+1), disc(far+1, 0, 5), disc(0, -far-1, 5)}
	for _, n := range badNumbers() {
		l = append(l, disc(0, 0, n), disc(n, 0, 5), disc(0, n, 5))
	}
	return l
}
