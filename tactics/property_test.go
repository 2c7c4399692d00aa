package tactics_test

import (
	"math/rand"
	"testing"

	"roquet/api"
	"roquet/tactics"
)

// narrower returns a board whose bounds lie between those of another one.
func narrower(r *rand.Rand, b api.Board) api.Board {
	b = copyBoard(b)
	narrow := func(c *api.Chance) {
		lo := from(r, c.Lo, c.Hi)
		*c = bounds(lo, from(r, lo, c.Hi))
	}
	for i := range api.MaxEdge {
		if r.Intn(3) > 0 {
			narrow(&b.Run[i])
		}
		if r.Intn(3) > 0 {
			narrow(&b.Hit[i])
		}
	}
	return b
}

// certain returns a board whose bounds are chances between those of another one.
func certain(r *rand.Rand, b api.Board) api.Board {
	b = copyBoard(b)
	for i := range api.MaxEdge {
		b.Run[i], b.Hit[i] = sure(from(r, b.Run[i].Lo, b.Run[i].Hi)), sure(from(r, b.Hit[i].Lo, b.Hit[i].Hi))
	}
	return b
}

// longest returns how many acts the longest break from a scene has.
func longest(b api.Board, s api.Scene) int64 {
	left := len(b.Hoops) - s.Hoop
	n := left * (1 + len(s.Balls))
	for _, dead := range s.Dead {
		if dead && left > 0 {
			n--
		}
	}
	return int64(n)
}

// P9.9: with narrower bounds the value lies between those of before.
func TestNarrower(t *testing.T) {
	r := dice(910)
	for range 300 {
		b := anyBoard(r, api.MaxEdge, 3)
		s := anyScene(r, b)
		v := mustValue(t, b, s)
		c := narrower(r, b)
		w := mustValue(t, c, s)
		if !within(w, v) {
			t.Errorf("%v: Value(%v): %v, but with the narrower bounds of %v: %v", b, s, v, c, w)
		}
	}
}

// P9.9: with certain chances both bounds differ by at most 2 for each act of the longest break.
func TestCertain(t *testing.T) {
	r := dice(911)
	differ := 0
	for range 300 {
		b := certain(r, anyBoard(r, api.MaxEdge, api.MaxRuns))
		s := anyScene(r, b)
		v := mustValue(t, b, s)
		if v.Hi < v.Lo || v.Hi-v.Lo > 2*longest(b, s) {
			t.Errorf("%v: Value(%v): %v, with at most %d acts", b, s, v, longest(b, s))
		}
		if v.Hi > v.Lo {
			differ++
		}
	}
	if differ < 50 {
		t.Errorf("only %d values are not whole numbers", differ)
	}
}

// P9.10: no act has a greater Lo than the best act, and none a greater Hi than the value; the value is at most Million for each hoop that is left.
func TestNoneBetter(t *testing.T) {
	r := dice(912)
	for range 150 {
		b := anyBoard(r, 2, api.MaxRuns)
		s := anyScene(r, b)
		a, best, e := tactics.Best(b, s)
		v := mustValue(t, b, s)
		if e != api.OK || best.Lo != v.Lo || best.Hi > v.Hi || v.Lo < 0 || v.Lo > v.Hi || v.Hi > int64(len(b.Hoops)-s.Hoop)*whole {
			t.Errorf("%v: Best(%v): %v, %v, error %d, and Value: %v", b, s, a, best, e, v)
		}
		l := mustActs(t, b, s)
		if (a.Kind == api.ActStop) != (len(l) == 0) {
			t.Errorf("%v: Best(%v): %v of %v", b, s, a, l)
		}
		for _, x := range l {
			if w := mustWorth(t, b, s, x); w.Lo > best.Lo || w.Hi > v.Hi {
				t.Errorf("%v: Best(%v): %v, %v, Value: %v, but %v is worth %v", b, s, a, best, v, x, w)
			}
		}
	}
}

// P9.11: a plan has each hoop that is left, in order, and between two of them hits no ball twice.
func TestPlans(t *testing.T) {
	r := dice(913)
	hits := 0
	for range 150 {
		b := anyBoard(r, api.MaxEdge, api.MaxRuns)
		s := anyScene(r, b)
		first := copyScene(s)
		l := mustPlan(t, b, s)
		runs := 0
		var hit [api.MaxPieces]bool
		copy(hit[:], s.Dead)
		for _, a := range l {
			if best, _, e := tactics.Best(b, s); best != a || e != api.OK {
				t.Errorf("%v: Plan(%v): %v, but the best act at %v is %v, error %d", b, first, l, s, best, e)
			}
			s = mustAfter(t, b, s, a)
			if a == runAct() {
				runs++
				hit = [api.MaxPieces]bool{}
			} else if hit[a.Ball] {
				t.Errorf("%v: Plan(%v): %v hits the ball %d twice", b, first, l, a.Ball)
			} else {
				hits++
				hit[a.Ball] = true
			}
		}
		left := len(b.Hoops) - first.Hoop
		if runs != left || s.Hoop != len(b.Hoops) || len(l) > (api.MaxPieces+1)*left || int64(len(l)) > longest(b, first) {
			t.Errorf("%v: Plan(%v): %v, and then %v", b, first, l, s)
		}
	}
	if hits < 50 {
		t.Errorf("only %d balls were hit", hits)
	}
}

// P9.12: no scene has a value with a lesser Hi than the best leave.
func TestNoLesserLeave(t *testing.T) {
	r := dice(914)
	for range 60 {
		b := anyBoard(r, api.MaxEdge, 2)
		var l []api.Scene
		for range 1 + r.Intn(20) {
			l = append(l, anyScene(r, b))
		}
		i, v, e := tactics.Leave(b, l)
		if e != api.OK || v != mustValue(t, b, l[i]) {
			t.Errorf("Leave(%v, %v): %d, %v, error %d", b, l, i, v, e)
		}
		for k, s := range l {
			if w := mustValue(t, b, s); w.Hi < v.Hi || w.Hi == v.Hi && k < i {
				t.Errorf("Leave(%v, %v): %d, %v, but %d is worth %v", b, l, i, v, k, w)
			}
		}
	}
}
