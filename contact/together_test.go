package contact_test

import (
	"math/rand"
	"slices"
	"testing"

	"roquet/api"
	"roquet/contact"
)

// balls returns n balls of the examples.
func balls(n int) []api.Ball { return slices.Repeat([]api.Ball{ball()}, n) }

// P3.6: the work in two balls, each weighed with the mass of the other one.
func TestWork(t *testing.T) {
	light, heavy := api.Ball{Mass: 400, Radius: 2000}, api.Ball{Mass: 500, Radius: 2000}
	for _, x := range []struct {
		a, b api.Ball
		m, k api.Point
		want int64
	}{
		{ball(), ball(), at(0, 0), at(0, 0), 0},
		{ball(), ball(), at(3, 4), at(0, 0), 11250},
		{light, heavy, at(3, 4), at(0, 0), 12500},
		{light, heavy, at(0, 0), at(-3, 4), 10000},
		{heavy, light, at(3, -4), at(1, 1), 11000},
		{heavy, heavy, at(fast, -fast), at(-fast, fast), 562949953421312000},
	} {
		n, e := contact.Work(x.a, motion(at(5, 5), x.m), x.b, motion(at(5, 5), x.k)) // wherever they are
		if n != x.want || e != api.OK {
			t.Errorf("Work of %v: %d, error %d", x, n, e)
		}
	}
	r := dice()
	for range 5000 {
		p := anyPair(r)
		if n, e := contact.Work(p.a, p.s, p.b, p.t); workOf(p.a, p.s, p.b, p.t).Cmp(num(n)) != 0 || e != api.OK {
			t.Errorf("Work of %v: %d, error %d", p, n, e)
		}
	}
}

// P3.6: the sum of momenta, of no balls and of as many as there may be.
func TestTotal(t *testing.T) {
	one, two := motion(at(1, 2), at(100008, 7)), motion(at(3, 4), at(899992, -9))
	most := slices.Repeat([]api.Motion{motion(at(far, far), at(fast, -fast))}, 8)
	for _, x := range []struct {
		s    []api.Motion
		want api.Point
	}{
		{nil, at(0, 0)}, {[]api.Motion{}, at(0, 0)}, {[]api.Motion{one}, one.M},
		{[]api.Motion{one, two}, at(1000000, -2)}, {most, at(8*fast, -8*fast)},
	} {
		if p, e := contact.Total(balls(len(x.s)), x.s); p != x.want || e != api.OK {
			t.Errorf("Total of %v: %v, error %d", x.s, p, e)
		}
	}
}

// P3.6, P3.7: lists that are too long, then ones that are not equally long, then what is not valid in them.
func TestListErrors(t *testing.T) {
	bad := api.Motion{M: at(fast+1, 0)}
	nine := slices.Repeat([]api.Ball{{}}, 9)
	for _, x := range []struct {
		l     []api.Ball
		s     []api.Motion
		total api.Errno
	}{
		{balls(8), make([]api.Motion, 8), api.OK},
		{balls(9), make([]api.Motion, 9), api.ErrMany},
		{balls(9), nil, api.ErrMany},
		{nine, []api.Motion{bad}, api.ErrMany},
		{balls(10000), make([]api.Motion, 10000), api.ErrMany},
		{balls(8), make([]api.Motion, 9), api.ErrEqual},
		{balls(8), make([]api.Motion, 7), api.ErrEqual},
		{nil, make([]api.Motion, 1), api.ErrEqual},
		{balls(1), nil, api.ErrEqual},
		{nine[:2], []api.Motion{bad}, api.ErrEqual},
		{nine[:2], make([]api.Motion, 2), api.ErrArg},
		{balls(2), []api.Motion{{}, bad}, api.ErrArg},
		{balls(2), []api.Motion{bad, {}}, api.ErrArg},
		{append(balls(7), api.Ball{}), make([]api.Motion, 8), api.ErrArg},
	} {
		if p, e := contact.Total(x.l, x.s); p != at(0, 0) || e != x.total {
			t.Errorf("Total of %d and %d: %v, error %d", len(x.l), len(x.s), p, e)
		}
		for _, y := range []api.Bounce{lively(), {Rebound: -1}} {
			want := x.total
			if want == api.OK {
				want = contact.CheckBounce(y)
			}
			s, met, e := contact.Settle(x.l, x.s, y)
			if e != want || len(met) != 0 || e != api.OK && len(s) != 0 {
				t.Errorf("Settle of %d and %d: %v, %v, error %d, and not %d", len(x.l), len(x.s), s, met, e, want)
			}
		}
	}
}

// P3.7: a blow goes through a row of balls if they are numbered along it; against it, only the first one is hit.
func TestSettleRow(t *testing.T) {
	row := []api.Motion{motion(at(0, 0), at(1000000, 0)), motion(at(5888, 0), at(0, 0)), motion(at(11776, 0), at(0, 0))}
	row[1].Rest = at(-14400, 14399)
	s, met, e := contact.Settle(balls(3), row, lively())
	want := slices.Clone(row)
	want[0].M, want[1].M, want[2].M = at(100008, 0), at(90004, 0), at(809988, 0)
	if !slices.Equal(s, want) || !slices.Equal(met, [][2]int{{0, 1}, {1, 2}}) || e != api.OK {
		t.Errorf("Settle along the row: %v, %v, error %d", s, met, e)
	}
	slices.Reverse(row)
	s, met, e = contact.Settle(balls(3), row, lively())
	want = slices.Clone(row)
	want[1].M, want[2].M = at(899992, 0), at(100008, 0)
	if !slices.Equal(s, want) || !slices.Equal(met, [][2]int{{1, 2}}) || e != api.OK {
		t.Errorf("Settle against the row: %v, %v, error %d", s, met, e)
	}
}

// P3.7: what is apart, does not approach, or lies in another ball does not bounce; a bounce that is too little to be felt is one.
func TestSettleNone(t *testing.T) {
	for _, x := range []struct {
		s   []api.Motion
		met [][2]int
	}{
		{nil, nil},
		{[]api.Motion{motion(at(0, 0), at(fast, 0))}, nil},
		{[]api.Motion{motion(at(0, 0), at(9, 0)), motion(at(5889, 0), at(0, 0))}, nil},
		{[]api.Motion{motion(at(0, 0), at(-9, 0)), motion(at(5888, 0), at(0, 0))}, nil},
		{[]api.Motion{motion(at(0, 0), at(9, 0)), motion(at(5519, 0), at(0, 0))}, nil},
		{[]api.Motion{motion(at(0, 0), at(9, 0)), motion(at(0, 0), at(-9, 0))}, nil},
		{[]api.Motion{motion(at(0, 0), at(9, 0)), motion(at(5888, 0), at(0, 0))}, [][2]int{{0, 1}}},
	} {
		s, met, e := contact.Settle(balls(len(x.s)), x.s, lively())
		if !slices.Equal(s, x.s) || !slices.Equal(met, x.met) || e != api.OK {
			t.Errorf("Settle of %v: %v, %v, error %d", x.s, s, met, e)
		}
	}
}

// P3.7: a momentum that comes over the limit, in the first bounce or in a later one.
func TestSettleOver(t *testing.T) {
	light, heavy := api.Ball{Mass: 400, Radius: 2048}, api.Ball{Mass: 500, Radius: 2048}
	s := []api.Motion{motion(at(0, 0), at(fast, 0)), motion(at(4096, 0), at(0, 0)), motion(at(0, 90000), at(0, 5)), motion(at(0, 94096), at(0, 0))}
	for _, x := range []struct {
		rebound int64
		order   []int
		met     [][2]int
		want    api.Errno
	}{
		{800, []int{0, 1, 2, 3}, [][2]int{{0, 1}, {2, 3}}, api.OK},
		{801, []int{0, 1, 2, 3}, nil, api.ErrOver},
		{800, []int{2, 3, 0, 1}, [][2]int{{0, 1}, {2, 3}}, api.OK},
		{801, []int{2, 3, 0, 1}, nil, api.ErrOver},
	} {
		var l []api.Ball
		var in []api.Motion
		for _, k := range x.order {
			l = append(l, []api.Ball{light, heavy}[k%2])
			in = append(in, s[k])
		}
		out, met, e := contact.Settle(l, in, api.Bounce{Rebound: x.rebound})
		if e != x.want || !slices.Equal(met, x.met) || (e == api.OK) != (len(out) == 4) {
			t.Errorf("Settle of %v with %d: %v, %v, error %d", in, x.rebound, out, met, e)
		}
	}
}

// heap returns up to 8 balls that lie near to each other, many of them in contact.
func heap(r *rand.Rand) ([]api.Ball, []api.Motion) {
	var l []api.Ball
	var s []api.Motion
	for k := range r.Intn(api.MaxTogether + 1) {
		b := anyBall(r)
		p := at(roll(r, -9000, 9000), roll(r, -9000, 9000))
		if k > 0 && r.Intn(4) > 0 {
			other := r.Intn(k)
			p = beside(r, s[other].At, l[other].Radius, b.Radius)
		}
		l, s = append(l, b), append(s, anyMotion(r, b, p))
	}
	return l, s
}

// P3.7, P3.9: any balls bounce pair by pair, in order, and keep their momentum together; the arguments stay as they are.
func TestSettleOfAll(t *testing.T) {
	r := dice()
	bounces, over, most := 0, 0, 0
	for range 20000 {
		l, s := heap(r)
		x := anyBounce(r)
		want, pairs, wantError := settled(l, s, x)
		l0, s0 := slices.Clone(l), slices.Clone(s)
		got, met, e := contact.Settle(l, s, x)
		if !slices.Equal(got, want) || !slices.Equal(met, pairs) || e != wantError {
			t.Fatalf("Settle(%v, %v, %v): %v, %v, error %d, and not %v, %v, error %d", l, s, x, got, met, e, want, pairs, wantError)
		}
		if !slices.Equal(l, l0) || !slices.Equal(s, s0) {
			t.Fatalf("Settle(%v, %v, %v) changed them to %v and %v", l0, s0, x, l, s)
		}
		if e != api.OK {
			over++
			continue
		}
		if totalOf(t, l, got) != totalOf(t, l, s) {
			t.Errorf("Settle(%v, %v, %v): %v has another momentum", l, s, x, got)
		}
		bounces += len(met)
		most = max(most, len(met))
	}
	if bounces < 10000 || over < 20 || most < 7 {
		t.Errorf("%d bounces, at most %d together, and %d times over the limit", bounces, most, over)
	}
}

// settled returns what comes of balls that bounce one pair after the other.
func settled(l []api.Ball, s []api.Motion, x api.Bounce) ([]api.Motion, [][2]int, api.Errno) {
	s = slices.Clone(s)
	var met [][2]int
	for i := range l {
		for k := i + 1; k < len(l); k++ {
			one, two, e := contact.Bounce(l[i], s[i], l[k], s[k], x)
			if e == api.ErrOver {
				return nil, nil, e
			}
			if e == api.OK {
				s[i], s[k] = one, two
				met = append(met, [2]int{i, k})
			}
		}
	}
	return s, met, api.OK
}

// P3.7: results share no memory with arguments, or with other results.
func TestSettleMemory(t *testing.T) {
	s := []api.Motion{motion(at(0, 0), at(1000000, 0)), motion(at(5888, 0), at(0, 0))}
	first, met, _ := contact.Settle(balls(2), s, lively())
	first[0], first[1], met[0] = api.Motion{}, api.Motion{}, [2]int{}
	second, again, e := contact.Settle(balls(2), s, lively())
	if e != api.OK || s[0].M != at(1000000, 0) || second[0].M != at(100008, 0) || second[1].M != at(899992, 0) || again[0] != [2]int{0, 1} {
		t.Errorf("Settle again: %v, %v, error %d, of %v", second, again, e, s)
	}
}
