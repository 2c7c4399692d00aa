package stroke_test

import (
	"math/rand"
	"slices"
	"testing"

	"roquet/api"
	"roquet/contact"
	"roquet/stroke"
	"roquet/turf"
)

// runs are how many runs the properties are tested with.
const runs = 120

// anyRun returns a ground and a state, valid, from which a run of some ticks goes well.
func anyRun(r *rand.Rand, ticks int) (api.Ground, api.State) {
	for {
		g := anyGround(r)
		s := anyState(r, g)
		s.Tick = r.Intn(100)
		if _, _, e := stroke.Play(g, s, ticks); e == api.OK {
			return g, s
		}
	}
}

// P4.7: to play n + m ticks is to play n, and then m; and what is played again is the same.
func TestPlayedAgain(t *testing.T) {
	r := dice(46)
	for range runs {
		n, m := int(roll(r, 0, 60)), int(roll(r, 0, 60))
		g, s := anyRun(r, n+m)
		all, knocks := mustPlay(t, g, s, n+m)
		again, same := mustPlay(t, g, s, n+m)
		if !sameState(all, again) || !sameList(knocks, same) {
			t.Fatalf("again: %v, %v and %v, %v", all, knocks, again, same)
		}
		half, first := mustPlay(t, g, s, n)
		rest, second := mustPlay(t, g, half, m)
		if !sameState(all, rest) || !sameList(knocks, append(first, second...)) {
			t.Fatalf("%v, %v: %d and %d ticks: %v, %v, not %v, %v", g, s, n, m, rest, append(first, second...), all, knocks)
		}
	}
}

// P4.7: ticks one by one are what is played, and a blow that is struck again is the same.
func TestTickByTick(t *testing.T) {
	r := dice(47)
	for range runs {
		g, s := anyRun(r, 50)
		all, knocks := mustPlay(t, g, s, 50)
		var told []api.Knock
		for range 50 {
			if still, _ := stroke.Still(g, s); still {
				break
			}
			next, l := mustTick(t, g, s)
			s, told = next, append(told, l...)
		}
		if !sameState(all, s) || !sameList(knocks, told) {
			t.Fatalf("%v, %v, not %v, %v", s, told, all, knocks)
		}
	}
}

// slowed returns the momenta of all balls after the first part of a tick.
func slowed(g api.Ground, s api.State) []api.Point {
	m := modelOf(g, s)
	m.first()
	var l []api.Point
	for _, x := range m.s.Motions {
		l = append(l, x.M)
	}
	return l
}

// sum returns the sum of points.
func sum(l ...api.Point) api.Point {
	var s api.Point
	for _, p := range l {
		s = plus(s, p)
	}
	return s
}

// P4.8: without posts, and balls that leave, the sum of all momenta is that after the first part of the tick.
func TestMomentumOfTick(t *testing.T) {
	r := dice(48)
	met := 0
	for met < 500 {
		g := anyGround(r)
		s := anyState(r, g)
		next, knocks, e := stroke.Tick(g, s)
		if e != api.OK || slices.ContainsFunc(knocks, func(k api.Knock) bool { return k.Kind != api.KnockBall }) {
			continue
		}
		total, e := stroke.Total(g, next)
		if want := sum(slowed(g, s)...); total != want || e != api.OK {
			t.Fatalf("Tick(%v, %v): momentum %v, want %v", g, s, total, want)
		}
		if len(knocks) > 0 {
			met++
		}
	}
}

// P4.8: behind a blow, but for what follows, the sum of all momenta is that of the blow.
func TestMomentumOfBlow(t *testing.T) {
	r := dice(49)
	met := 0
	for met < 200 {
		g := anyGround(r)
		s := anyState(r, g)
		for i := range s.Motions {
			s.Motions[i].M = at(0, 0)
		}
		b := api.Blow{Ball: r.Intn(len(g.Balls)), Aim: at(roll(r, -99, 99), roll(r, 1, 99)), Power: roll(r, 1, api.MaxPower), Kind: r.Intn(5)}
		next, knocks, e := stroke.Strike(g, s, b)
		if e == api.ErrState {
			continue
		}
		by, _ := turf.Towards(b.Aim, at(0, 0), b.Power)
		want := by
		if len(knocks) > 0 {
			met++
			follow := []int64{0, 150, 500, 900, 0}[b.Kind]
			want = plus(by, at(by.X*follow/1000, by.Y*follow/1000))
		}
		if total, _ := stroke.Total(g, next); total != want || e != api.OK {
			t.Fatalf("Strike(%v, %v, %v): momentum %v, want %v, error %d", g, s, b, total, want, e)
		}
	}
}

// P4.9: a still state stays as it is, but for its Tick and Flies.
func TestStillStays(t *testing.T) {
	r := dice(50)
	for range 1000 {
		g := anyGround(r)
		s := anyState(r, g)
		s.Tick %= api.MaxRun
		for i := range s.Motions {
			s.Motions[i].M = at(0, 0)
		}
		next, knocks := mustTick(t, g, s)
		if !sameState(next, with(s, func(s *api.State) { s.Tick, s.Flies = s.Tick+1, max(s.Flies-1, 0) })) || len(knocks) != 0 {
			t.Fatalf("Tick(%v, %v): %v, %v", g, s, next, knocks)
		}
	}
}

// of reports whether a knock is one of a ball.
func of(k api.Knock, ball int) bool {
	return k.Ball == ball || k.Kind == api.KnockBall && k.Other == ball
}

// P4.9, P4.10: what is out, or still and touched by nothing, stays where it is; and contacts change a momentum only with a knock of the ball.
func TestOnlyByKnocks(t *testing.T) {
	r := dice(51)
	for range 5000 {
		g := anyGround(r)
		s := anyState(r, g)
		next, knocks, e := stroke.Tick(g, s)
		if e != api.OK {
			continue
		}
		first := slowed(g, s)
		for i, m := range next.Motions {
			if slices.ContainsFunc(knocks, func(k api.Knock) bool { return of(k, i) }) {
				continue
			}
			if m.M != first[i] || next.Out[i] != s.Out[i] {
				t.Fatalf("Tick(%v, %v): the ball %d has the momentum %v, want %v, with the knocks %v", g, s, i, m.M, first[i], knocks)
			}
			if still := s.Motions[i].M == at(0, 0); still && m != s.Motions[i] {
				t.Fatalf("Tick(%v, %v): the ball %d is moved to %v, with the knocks %v", g, s, i, m, knocks)
			}
		}
	}
}

// P4.12: the knocks of a run are in order by tick and step; a ball is out at most once, and has no knock after that.
func TestKnocksInOrder(t *testing.T) {
	r := dice(52)
	outs := 0
	for range runs {
		g, s := anyRun(r, 200)
		end, knocks := mustPlay(t, g, s, 200)
		out := slices.Clone(s.Out)
		var last api.Knock
		for _, k := range knocks {
			if k.Tick < last.Tick || k.Tick == last.Tick && k.Step < last.Step || k.Step < 1 || k.Step > api.Steps || k.Tick < s.Tick || k.Tick >= end.Tick {
				t.Fatalf("%v comes after %v", k, last)
			}
			if out[k.Ball] || k.Kind == api.KnockBall && out[k.Other] {
				t.Fatalf("%v is a knock of a ball that is out: %v", k, knocks)
			}
			if k.Kind == api.KnockOut {
				out[k.Ball] = true
				outs++
			}
			last = k
		}
		if !slices.Equal(out, end.Out) {
			t.Fatalf("out are %v, told are %v", end.Out, out)
		}
	}
	if outs < 50 {
		t.Errorf("only %d balls left", outs)
	}
}

// P4.4, P4.8: a state after a blow or a tick is valid, and no contact makes energy.
func TestValidAfter(t *testing.T) {
	r := dice(53)
	for range 3000 {
		g := anyGround(r)
		s := anyState(r, g)
		next, _, e := stroke.Tick(g, s)
		if e != api.OK {
			continue
		}
		if e := stroke.CheckState(g, next); e != api.OK {
			t.Fatalf("Tick(%v, %v): %v is not valid: %d", g, s, next, e)
		}
		if before, after := energy(g, slowed(g, s)), energy(g, momenta(next)); after > before*(1+1e-9) {
			t.Fatalf("Tick(%v, %v): energy %g, and %g before", g, s, after, before)
		}
	}
}

// momenta returns the momenta of a state.
func momenta(s api.State) []api.Point {
	var l []api.Point
	for _, m := range s.Motions {
		l = append(l, m.M)
	}
	return l
}

// energy returns the energy of balls with these momenta.
func energy(g api.Ground, l []api.Point) float64 {
	all := 0.0
	for i, m := range l {
		all += float64(m.X*m.X+m.Y*m.Y) / float64(2*g.Balls[i].Mass)
	}
	return all
}

// P4.7: a stroke is played from a blow to its end as it is with all functions of lower layers.
func TestWholeStroke(t *testing.T) {
	g := ground(4, 400)
	s, e := stroke.Lie(g, []api.Point{at(50000, 20000), at(50000, 60000), at(20000, 70000), at(80000, 65000)})
	if e != api.OK {
		t.Fatalf("Lie: error %d", e)
	}
	struck, _ := mustStrike(t, g, s, api.Blow{Aim: at(0, 1), Power: 300000, Kind: api.BlowDrive})
	end, knocks := mustPlay(t, g, struck, api.MaxRun)
	if still, _ := stroke.Still(g, end); !still {
		t.Fatalf("%v is not still", end)
	}
	track, _ := stroke.Track(g, struck, 0, api.MaxRun)
	if track[len(track)-1] != end.Motions[0].At || len(track) != end.Tick+1 {
		t.Errorf("the track has %d places, and ends at %v: %v", len(track), track[len(track)-1], end)
	}
	if runs, e := stroke.Runs(g.Lawn, 0, true, g.Balls[0].Radius, track); !runs || e != api.OK {
		t.Errorf("Runs: %v, error %d", runs, e)
	}
	if met, e := stroke.Met(g, knocks, 0); e != api.OK || !slices.Equal(met, []int{1}) {
		t.Errorf("Met: %v, error %d, by %v", met, e, knocks)
	}
	if sum, _ := contact.Total(g.Balls, end.Motions); sum != at(0, 0) {
		t.Errorf("Total: %v", sum)
	}
}
