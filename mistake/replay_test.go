package mistake_test

import (
	"slices"
	"testing"

	"roquet/api"
	"roquet/mistake"
)

// fresh returns a position in which a wrong stroke of a kind is possible with the ball 2, 0 or 1, and all have 0 points; the ball that is struck then is the second result.
func fresh(code, kind int) (api.Game, api.Deed, int) {
	zero := func(g *api.Game) { g.Points, g.Began = [4]int{}, 0 }
	switch kind {
	case api.WrongBall:
		return with(turnOf(code), zero), otherBall(2, hoop(2)), 2
	case api.WrongTurn:
		return with(startOf(code), zero), outOfTurn(0, hoop(0)), 0
	}
	return with(turnOf(code), zero), notRoqueted(1, hoop(0)), 0
}

// rectified returns the position in which a claim about a wrong stroke leaves the game.
func rectified(t *testing.T, g api.Game, kind int) api.Game {
	t.Helper()
	if kind == api.WrongTurn {
		return g
	}
	return mustPlay(t, g, pass())
}

// P7.3, P7.8: of all codes and kinds, claims behind none and more strokes: up to the limit they are in time.
func TestReplayLimits(t *testing.T) {
	for code, row := range modelLimits {
		for i, most := range row {
			kind := i + 1
			for count := range 6 {
				g, d, ball := fresh(code, kind)
				l := join(deeds(d), times(count, strike(hoop(ball))), deeds(claim(0)))
				ruling := api.Ruling{Claim: count + 1, Deed: 0, Wrong: kind, Count: count, Most: most, InTime: count <= most}
				want := api.Outcome{Game: rectified(t, g, kind), Rulings: []api.Ruling{ruling}}
				if count > most {
					want.Game = mustReplay(t, g, l[:count+1]).Game
					for n := range count + 1 {
						want.Stands = append(want.Stands, n)
					}
					if want.Game.Points[ball] != count+1 {
						t.Fatalf("points %v", want.Game)
					}
				}
				if o, n, e := mistake.Replay(g, l); !sameOutcome(o, want) || n != len(l) || e != api.OK {
					t.Errorf("Replay(%v, %v): %v, %d, error %d, want %v", g, l, o, n, e, want)
				}
			}
		}
	}
}

// P7.3: only strokes that stand count: no choices and passes, no claims, nothing that was cancelled, but wrong strokes that nobody claimed.
func TestReplayCounts(t *testing.T) {
	on := turnOf(api.CodeAssociation)
	start := startOf(api.CodeAssociation)
	cut := func(kind int) []api.Deed {
		return join(deeds(notRoqueted(1, hoop(2), hoop(2))), times(kind, strike(hoop(2))))
	}
	halves := with(start, func(g *api.Game) { g.Last, g.Halves = 2, [2]int{3, 2} })
	for _, x := range []struct {
		name  string
		g     api.Game
		l     []api.Deed
		about int
		count int
	}{
		{"nothing", on, deeds(otherBall(2)), 0, 0},
		{"a stroke before it", on, deeds(strike(hoop(0)), otherBall(2)), 1, 0},
		{"wrong strokes before it", on, deeds(notRoqueted(1), notRoqueted(3), otherBall(2)), 2, 0},
		{"passes and choices", on, deeds(otherBall(2), choose(1), pass(), pass(), choose(3), pass()), 0, 0},
		{"bisques", with(halves, goesOnOf(1, 6)), deeds(otherBall(3), pass(), choose(1), pass(), bisque(1)), 0, 0},
		{"half a bisque and a stroke in it", halves, deeds(outOfTurn(0), half(0), strike()), 0, 1},
		{"a stroke without events", on, deeds(otherBall(2), choose(1), strike()), 0, 1},
		{"a fault", on, deeds(otherBall(2), choose(1), strike(fault())), 0, 1},
		{"wrong strokes", on, deeds(otherBall(2, hoop(2)), notRoqueted(1), otherBall(0), outOfTurn(0)), 0, 3},
		{"a late claim", on, join(deeds(otherBall(2, hoop(2))), cut(3), deeds(claim(1))), 0, 4},
		{"a stroke that was cancelled", on, join(deeds(otherBall(2, hoop(2)), strike(hoop(2))), cut(2), deeds(claim(2))), 0, 1},
		{"strokes before and behind the cancelled ones", on, join(deeds(otherBall(2, hoop(2)), strike(hoop(2))), cut(0), deeds(claim(2), choose(1), strike())), 0, 2},
	} {
		l := join(x.l, deeds(claim(x.about)))
		o, n, e := mistake.Replay(x.g, l)
		if n != len(l) || e != api.OK {
			t.Errorf("%s: %v, %d, error %d", x.name, o, n, e)
			continue
		}
		if r := o.Rulings[len(o.Rulings)-1]; r.Claim != n-1 || r.Deed != x.about || r.Count != x.count {
			t.Errorf("%s: %v, want the count %d", x.name, r, x.count)
		}
	}
}

// P7.3: what each kind of wrong stroke comes to as long as nobody claims it.
func TestReplayUnclaimed(t *testing.T) {
	for _, x := range []struct {
		name string
		g    api.Game
		d    api.Deed
	}{
		{"the partner roquets", turnOf(api.CodeShort), otherBall(2, hit(1))},
		{"the partner hits nothing", turnOf(api.CodeShort), otherBall(2)},
		{"a dead ball is roqueted by the partner", with(turnOf(api.CodeFormer), goesOn, dead(1)), otherBall(2, hit(1))},
		{"the partner takes the croquet", with(turnOf(api.CodeFormer), croquetOf(3)), otherBall(2, hoop(2), hit(3))},
		{"a side plays on", startOf(api.CodeAdvanced), outOfTurn(0, hoop(0), hit(3))},
		{"croquet of a dead ball", with(turnOf(api.CodeAdvanced), goesOn, dead(1)), notRoqueted(1, hit(3))},
		{"croquet, and the ball is sent off", turnOf(api.CodeAdvanced), notRoqueted(1, off(1))},
		{"a fault", turnOf(api.CodeAdvanced), notRoqueted(1, hoop(0), fault())},
	} {
		as, ok := modelAsIf(x.g, x.d.Wrong, x.d.Ball)
		want := mustPlay(t, as, strike(x.d.Events...))
		if o := mustReplay(t, x.g, deeds(x.d)); !ok || !sameOutcome(o, api.Outcome{Game: want, Stands: []int{0}}) {
			t.Errorf("%s: %v, want %v", x.name, o, want)
		}
	}
}

// P7.3: what a claim that is in time leaves, and what is played on from there.
func TestReplayRectified(t *testing.T) {
	on := turnOf(api.CodeAdvanced)
	start := startOf(api.CodeAdvanced)
	lifts := with(on, func(g *api.Game) { g.Points[0], g.Began = 7, 6 })
	rovers := with(on, func(g *api.Game) { g.Points[0], g.Points[2] = 12, 12 })
	half := with(turnOf(api.CodeShort), func(g *api.Game) { g.Half, g.Halves = true, [2]int{3, 0} })
	for _, x := range []struct {
		name   string
		g      api.Game
		l      []api.Deed
		want   api.Game
		stands []int
	}{
		{"another ball was struck", on, deeds(strike(hit(1)), otherBall(2, hit(3)), strike(off(3)), claim(1)), mustPlay(t, on, strike(hit(1)), pass()), []int{0}},
		{"another ball was struck in a half bisque", half, deeds(otherBall(2, hit(3)), claim(0)), mustPlay(t, half, pass()), nil},
		{"a turn went on", on, deeds(strike(), outOfTurn(0, hoop(0)), strike(hoop(0)), claim(1)), mustPlay(t, on, strike()), []int{0}},
		{"croquet that was not due", on, deeds(strike(hoop(0)), notRoqueted(1), strike(hoop(0)), claim(1)), mustPlay(t, on, strike(hoop(0)), pass()), []int{0}},
		{"the end of the turn gives a lift", lifts, deeds(otherBall(2, hoop(2)), claim(0)), mustPlay(t, lifts, pass()), nil},
		{"the game was over", rovers, deeds(otherBall(2, peg(0), peg(2)), claim(0), choose(1)), mustPlay(t, rovers, pass(), choose(1)), []int{2}},
		{"the game goes on by moves", start, deeds(outOfTurn(2, hoop(2)), claim(0), choose(3), strike(hit(1))), mustPlay(t, start, choose(3), strike(hit(1))), []int{2, 3}},
		{"a wrong stroke again", on, deeds(otherBall(2), claim(0), outOfTurn(0), claim(2)), mustPlay(t, on, pass()), nil},
		{"a claim about an earlier one", on, deeds(otherBall(2, hoop(2)), notRoqueted(1, hoop(2)), claim(1), claim(0)), mustPlay(t, on, pass()), nil},
		{"a claim about an earlier one, with moves behind a pass", on, deeds(otherBall(2, hoop(2)), notRoqueted(1, hoop(2)), claim(1), choose(1), strike(), claim(0)), mustPlay(t, on, pass()), nil},
		{"a claim about an earlier one, behind a late claim", on, deeds(otherBall(2), outOfTurn(2, hoop(2)), strike(hoop(2)), strike(hoop(2)), claim(1), claim(0)), mustPlay(t, on, pass()), nil},
		{"a claim about a later one, behind a late claim", start, deeds(outOfTurn(0, hoop(0)), strike(hoop(0)), strike(hoop(0)), claim(0), notRoqueted(1), claim(4)), mustPlay(t, with(start, goesOnOf(0, 5), points(5, 3, 4, 5), began(2)), pass()), []int{0, 1, 2}},
	} {
		if o := mustReplay(t, x.g, x.l); o.Game != x.want || !slices.Equal(o.Stands, x.stands) {
			t.Errorf("%s: %v, want %v and %v", x.name, o, x.want, x.stands)
		}
	}
}

// P7.3: the rulings are those of all claims, in order, also of those that were late or cancelled.
func TestReplayRulings(t *testing.T) {
	l := deeds(
		otherBall(2), outOfTurn(2, hoop(2)), strike(hoop(2)), strike(hoop(2)), claim(1), notRoqueted(3), claim(5), claim(0),
		choose(1), notRoqueted(0), pass(), claim(9), pass(),
	)
	want := []api.Ruling{
		{Claim: 4, Deed: 1, Wrong: api.WrongTurn, Count: 2, Most: 1},
		{Claim: 6, Deed: 5, Wrong: api.WrongCroquet, Count: 0, Most: 2, InTime: true},
		{Claim: 7, Deed: 0, Wrong: api.WrongBall, Count: 3, Most: 3, InTime: true},
		{Claim: 11, Deed: 9, Wrong: api.WrongCroquet, Count: 0, Most: 2, InTime: true},
	}
	g := turnOf(api.CodeAssociation)
	if o := mustReplay(t, g, l); !slices.Equal(o.Rulings, want) || !slices.Equal(o.Stands, []int{8, 12}) {
		t.Errorf("Replay(%v, %v): %v, want %v", g, l, o, want)
	}
}

// P7.3, R10: any records, also with errors in them, come to what the definitions say, and again.
func TestReplayOfAll(t *testing.T) {
	r := dice(72)
	seen, late, inTime := map[api.Errno]int{}, [4]int{}, [4]int{}
	for range 6000 {
		g, l := anyRecord(t, r, 40)
		for range r.Intn(3) {
			if len(l) > 0 {
				i := r.Intn(len(l))
				l[i] = spoilt(r, l[i])
			}
		}
		m, count, want := modelReplay(g, l)
		seen[want]++
		for _, x := range m.rulings {
			if x.InTime {
				inTime[x.Wrong]++
			} else {
				late[x.Wrong]++
			}
		}
		for range 2 {
			if o, n, e := mistake.Replay(g, l); !sameOutcome(o, m.outcome()) || n != count || e != want {
				t.Fatalf("Replay(%v, %v): %v, %d, error %d, want %v, %d, error %d", g, l, o, n, e, m.outcome(), count, want)
			}
		}
	}
	for _, e := range []api.Errno{api.OK, api.ErrArg, api.ErrMany, api.ErrNone, api.ErrOld, api.ErrState, api.ErrRule} {
		if seen[e] < 20 {
			t.Errorf("the error %d: %d times", e, seen[e])
		}
	}
	for kind := 1; kind <= 3; kind++ {
		if late[kind] < 100 || inTime[kind] < 500 {
			t.Errorf("claims about wrong strokes %d: %d late, %d in time", kind, late[kind], inTime[kind])
		}
	}
}

// R5: a record is not changed, and what is returned is new memory each time.
func TestReplayMemory(t *testing.T) {
	g := turnOf(api.CodeAssociation)
	l := deeds(strike(hoop(0)), otherBall(2, hit(1)), claim(1), choose(1), notRoqueted(0, hoop(1)), claim(4))
	before := copyOf(l)
	one, two := mustReplay(t, g, l), mustReplay(t, g, l)
	want := mustReplay(t, g, before)
	one.Stands[0], one.Rulings[0] = 9, api.Ruling{}
	_ = append(one.Stands[:1], 7, 7, 7)
	if !sameOutcome(two, want) || !sameDeeds(l, before) || !sameOutcome(mustReplay(t, g, l), want) {
		t.Errorf("after a change: %v of %v, want %v of %v", two, l, want, before)
	}
}
