package mistake_test

import (
	"slices"
	"testing"

	"roquet/api"
	"roquet/game"
	"roquet/mistake"
)

// rulingOn returns the ruling of a claim, if there is one.
func rulingOn(o api.Outcome, n int) (api.Ruling, bool) {
	for _, r := range o.Rulings {
		if r.Claim == n {
			return r, true
		}
	}
	return api.Ruling{}, false
}

// P7.5, G4: the clean record comes to the same position, without rulings, and all of it stands; if all wrong strokes were rectified, it is what would have been.
func TestGameThatWouldHaveBeen(t *testing.T) {
	r := dice(74)
	rectified, ruled := 0, 0
	for range 4000 {
		g, l := anyRecord(t, r, 40)
		o := mustReplay(t, g, l)
		clean := mustClean(t, g, l)
		again := mustReplay(t, g, clean)
		if again.Game != o.Game || len(again.Rulings) > 0 || len(again.Stands) != len(clean) {
			t.Fatalf("the clean record %v of %v from %v on: %v, want %v", clean, l, g, again, o)
		}
		for i, n := range again.Stands {
			if i != n {
				t.Fatalf("the clean record %v from %v on: %v", clean, g, again)
			}
		}
		if len(o.Rulings) > 0 {
			ruled++
		}
		if !slices.ContainsFunc(o.Stands, func(n int) bool { return l[n].Kind == api.DeedWrong }) {
			if would, e := mistake.Would(g, l); would != o.Game || e != api.OK {
				t.Fatalf("Would(%v, %v): %v, error %d, want %v", g, l, would, e, o.Game)
			}
			if len(o.Rulings) > 0 {
				rectified++
			}
		}
	}
	if ruled < 1000 || rectified < 300 {
		t.Errorf("%d records with claims, %d with all wrong strokes rectified", ruled, rectified)
	}
}

// P7.5, G4: within its limit, it does not matter when a claim comes: what is left is the same.
func TestWheneverTheClaimComes(t *testing.T) {
	for code, row := range modelLimits {
		for i, most := range row {
			g, d, ball := fresh(code, i+1)
			at := mustReplay(t, g, deeds(d, claim(0))).Game
			for count := range most + 1 {
				l := join(deeds(d), times(count, strike(hoop(ball))), deeds(claim(0)))
				if o := mustReplay(t, g, l); o.Game != at {
					t.Errorf("Replay(%v, %v): %v, want %v", g, l, o.Game, at)
				}
			}
		}
	}
}

// P7.6, P7.7, P7.8: of all deeds of any record: late claims change nothing, positions are legal, and claims and what was claimed in time do not stand.
func TestDeedByDeed(t *testing.T) {
	r := dice(75)
	late, inTime := 0, 0
	for range 600 {
		g, l := anyRecord(t, r, 40)
		before := api.Outcome{Game: g}
		for n := range l {
			o := mustReplay(t, g, l[:n+1])
			if e := game.Check(o.Game); e != api.OK {
				t.Fatalf("Replay(%v, %v): %v, which is not legal", g, l[:n+1], o)
			}
			ruling, isClaim := rulingOn(o, n)
			if isClaim != (l[n].Kind == api.DeedClaim) || len(o.Rulings) != len(before.Rulings) && !isClaim {
				t.Fatalf("Replay(%v, %v): the rulings %v", g, l[:n+1], o.Rulings)
			}
			if isClaim && !ruling.InTime {
				late++
				if o.Game != before.Game || !slices.Equal(o.Stands, before.Stands) {
					t.Fatalf("Replay(%v, %v): a late claim changes %v to %v", g, l[:n+1], before, o)
				}
			}
			if isClaim && ruling.InTime {
				inTime++
			}
			checkStands(t, o, l)
			before = o
		}
	}
	if late < 100 || inTime < 500 {
		t.Errorf("%d late claims, %d in time", late, inTime)
	}
}

// checkStands checks that a ruling is in time just within its limit, and that neither claims stand, nor what they cancelled.
func checkStands(t *testing.T, o api.Outcome, l []api.Deed) {
	t.Helper()
	for i, n := range o.Stands {
		if l[n].Kind == api.DeedClaim || i > 0 && n <= o.Stands[i-1] {
			t.Fatalf("%v of %v", o, l)
		}
	}
	for i, x := range o.Rulings {
		most, e := mistake.Limit(o.Game.Code, x.Wrong)
		if e != api.OK || x.Most != most || x.InTime != (x.Count <= x.Most) || l[x.Claim].About != x.Deed || l[x.Deed].Wrong != x.Wrong {
			t.Fatalf("%v of %v", x, l)
		}
		if x.InTime && slices.Contains(o.Stands, x.Deed) || i > 0 && x.Claim <= o.Rulings[i-1].Claim {
			t.Fatalf("%v of %v", o, l)
		}
	}
}

// P7.9: a record of moves alone comes to what game.PlayAll says, also with errors.
func TestMovesAlone(t *testing.T) {
	r := dice(76)
	errors := 0
	for range 3000 {
		g := anyGame(r)
		m := &model{g: g}
		for range r.Intn(30) {
			if m.g.Phase == api.PhaseOver {
				break
			}
			m.take(anyMove(t, r, m.g))
		}
		l := m.deeds
		if len(l) > 0 && r.Intn(2) == 0 {
			i := r.Intn(len(l))
			l[i].Move = spoilt(r, l[i]).Move
		}
		moves := make([]api.Move, len(l))
		for i, d := range l {
			moves[i] = d.Move
		}
		want, count, e := game.PlayAll(g, moves)
		if e != api.OK {
			errors++
		}
		o, n, f := mistake.Replay(g, l)
		if o.Game != want || n != count || f != e || len(o.Stands) != count || len(o.Rulings) > 0 {
			t.Fatalf("Replay(%v, %v): %v, %d, error %d, want %v, %d, error %d", g, l, o, n, f, want, count, e)
		}
	}
	if errors < 200 {
		t.Errorf("only %d errors", errors)
	}
}
