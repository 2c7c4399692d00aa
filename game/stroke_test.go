package game_test

import (
	"testing"

	"roquet/api"
	"roquet/game"
)

// stroke is a stroke from a position on, and the changes by which it comes to another one.
type stroke struct {
	name   string
	g      api.Game
	events []api.Event
	want   []func(*api.Game)
}

// events is a list of events.
func events(l ...api.Event) []api.Event { return l }

// to is a list of changes.
func to(l ...func(*api.Game)) []func(*api.Game) { return l }

// checkStrokes plays strokes.
func checkStrokes(t *testing.T, l []stroke) {
	t.Helper()
	for _, x := range l {
		want := with(x.g, x.want...)
		if g, e := game.Play(x.g, strike(x.events...)); g != want || e != api.OK {
			t.Errorf("%s: %v of %v: %v, error %d, want %v", x.name, x.events, x.g, g, e, want)
		}
		if g := modelPlay(x.g, strike(x.events...)); g != want {
			t.Errorf("%s: the model of the tests is wrong: %v", x.name, g)
		}
	}
}

// The positions of the tests below.
var (
	open    = with(turnOf(api.CodeAssociation), bisques)
	going   = with(open, goesOn)
	taking  = with(open, croquetOf(1), dead(3))
	halfway = with(open, halved)
	rover   = with(open, points(12, 12, 12, 12))
)

// P5.3: an empty stroke ends the turn, unless it is a croquet stroke.
func TestEmptyStrokes(t *testing.T) {
	checkStrokes(t, []stroke{
		{"first", open, nil, to(ended(0))},
		{"continuation", going, nil, to(ended(0))},
		{"croquet", taking, nil, to(dead(1, 3), goesOn)},
		{"croquet, in a half bisque", with(taking, halved), nil, to(dead(1, 3), goesOn)},
		{"croquet, of the last ball", with(taking, dead(2, 3)), nil, to(dead(1, 2, 3), goesOn)},
	})
}

// P5.3: the first hit of a ball that is not dead is the roquet.
func TestHits(t *testing.T) {
	checkStrokes(t, []stroke{
		{"one", open, events(hit(1)), to(croquetOf(1))},
		{"the partner", open, events(hit(2)), to(croquetOf(2))},
		{"in continuation", with(going, dead(1)), events(hit(3)), to(croquetOf(3))},
		{"two", open, events(hit(3), hit(1)), to(croquetOf(3))},
		{"the same twice", open, events(hit(3), hit(3)), to(croquetOf(3))},
		{"a dead one", with(going, dead(1)), events(hit(1)), to(ended(0))},
		{"a dead one, and another one", with(going, dead(1)), events(hit(1), hit(2)), to(croquetOf(2))},
		{"the ball of which croquet is taken", taking, events(hit(1)), to(dead(1, 3), goesOn)},
		{"another one in a croquet stroke", taking, events(hit(1), hit(2)), to(dead(1, 3), croquetOf(2))},
		{"a dead one in a croquet stroke", taking, events(hit(3)), to(dead(1, 3), goesOn)},
		{"in a half bisque", halfway, events(hit(1)), to(croquetOf(1))},
		{"by a rover", with(rover, points(12, 1, 2, 3)), events(hit(1)), to(croquetOf(1))},
		{"one that is off already", open, events(off(1), hit(1)), to(croquetOf(1))},
		{"when the striker's ball is off", open, events(off(0), hit(1)), to(croquetOf(1))},
	})
}

// P5.3: what running a hoop does.
func TestHoops(t *testing.T) {
	former := turnOf(api.CodeFormer)
	checkStrokes(t, []stroke{
		{"the striker's ball", open, events(hoop(0)), to(scored(0), goesOn)},
		{"in continuation", with(going, dead(1, 3)), events(hoop(0)), to(scored(0), dead())},
		{"two hoops", open, events(hoop(0), hoop(0)), to(scored(0), scored(0), goesOn)},
		{"and a hit", with(going, dead(1)), events(hoop(0), hit(1)), to(scored(0), dead(), croquetOf(1))},
		{"a hit before", with(going, dead(1)), events(hit(2), hoop(0)), to(croquetOf(2))},
		{"a hit of a dead ball before", with(going, dead(1)), events(hit(1), hoop(0)), to(scored(0), dead())},
		{"in a croquet stroke", taking, events(hoop(0)), to(scored(0), dead(), goesOn)},
		{"in a croquet stroke, and a hit", taking, events(hoop(0), hit(1)), to(scored(0), dead(), croquetOf(1))},
		{"in a croquet stroke, behind a hit", taking, events(hit(2), hoop(0)), to(dead(1, 3), croquetOf(2))},
		{"in a half bisque", halfway, events(hoop(0)), to(ended(0))},
		{"in a half bisque, with dead balls", with(halfway, goesOn, dead(1)), events(hoop(0), hit(2)), to(croquetOf(2))},
		{"the last hoop", with(open, points(11, 1, 1, 1)), events(hoop(0)), to(scored(0), goesOn)},
		{"the last hoop, and another one", with(open, points(11, 1, 1, 1)), events(hoop(0), hoop(0)), to(scored(0), goesOn)},
		{"a rover", with(rover, goesOn, dead(1)), events(hoop(0)), to(ended(0))},
		{"a rover of six hoops", with(turnOf(api.CodeShort), points(6, 1, 1, 1)), events(hoop(0)), to(ended(0))},

		{"a peel", open, events(hoop(1)), to(scored(1), ended(0))},
		{"a peel of the partner", open, events(hoop(2)), to(scored(2), ended(0))},
		{"a peel keeps balls dead", with(going, dead(1)), events(hoop(1), hit(1), hit(3)), to(scored(1), croquetOf(3))},
		{"a peel in a croquet stroke", taking, events(hoop(1), hoop(1)), to(scored(1), scored(1), dead(1, 3), goesOn)},
		{"a peel behind a hit", open, events(hit(1), hoop(1)), to(scored(1), croquetOf(1))},
		{"a peel of a rover", rover, events(hoop(1)), to(ended(0))},
		{"a peel in a half bisque", halfway, events(hoop(1)), to(scored(1), ended(0))},
		{"a peel of the partner in a half bisque", halfway, events(hoop(2)), to(ended(0))},
		{"no peels", former, events(hoop(1), hoop(2), hoop(3)), to(ended(none))},
		{"no peels, but a hoop", former, events(hoop(1), hoop(0)), to(scored(0), goesOn)},
		{"peels without bisques", turnOf(api.CodeAdvanced), events(hoop(1), hoop(2)), to(scored(1), scored(2), ended(none))},
		{"a peel by a rover", with(rover, points(12, 1, 1, 1)), events(hoop(2)), to(scored(2), ended(0))},
	})
}

// P5.3: what hitting the peg does.
func TestPegs(t *testing.T) {
	checkStrokes(t, []stroke{
		{"not a rover", open, events(peg(0)), to(ended(0))},
		{"a hoop too few", with(open, points(11, 1, 1, 1)), events(peg(0)), to(ended(0))},
		{"the last hoop in the same stroke", with(open, points(11, 1, 1, 1)), events(hoop(0), peg(0)), to(scored(0), peggedOut(0), ended(none))},
		{"the striker's ball", with(rover, points(12, 1, 1, 1)), events(peg(0)), to(peggedOut(0), ended(none))},
		{"of six hoops", with(turnOf(api.CodeShort), points(6, 1, 1, 1)), events(peg(0)), to(peggedOut(0), ended(none))},
		{"behind a hit", rover, events(hit(1), peg(0)), to(croquetOf(1))},
		{"behind a hit of a dead ball", with(rover, goesOn, dead(1)), events(hit(1), peg(0)), to(peggedOut(0), ended(none))},
		{"and then a hit", rover, events(peg(0), hit(1)), to(peggedOut(0), ended(none))},
		{"and then another ball", rover, events(peg(0), peg(1)), to(peggedOut(0), ended(none))},
		{"and then a peel", with(rover, points(12, 3, 12, 12)), events(peg(0), hoop(1)), to(peggedOut(0), scored(1), ended(none))},
		{"in a croquet stroke", with(rover, croquetOf(1)), events(peg(0)), to(peggedOut(0), ended(none))},
		{"in a half bisque", with(rover, halved), events(peg(0)), to(ended(0))},

		{"another ball", rover, events(peg(1)), to(peggedOut(1), ended(0))},
		{"another ball that is not a rover", with(rover, points(12, 11, 12, 12)), events(peg(1)), to(ended(0))},
		{"another ball, by one that is not a rover", with(rover, points(11, 12, 12, 12)), events(peg(1)), to(ended(0))},
		{"another ball, by one that becomes a rover", with(rover, points(11, 12, 1, 1)), events(hoop(0), peg(1)), to(scored(0), peggedOut(1), goesOn)},
		{"another ball that becomes a rover", with(rover, points(12, 11, 1, 1)), events(hoop(1), peg(1)), to(scored(1), peggedOut(1), ended(0))},
		{"the partner", rover, events(peg(2)), to(peggedOut(2), ended(0))},
		{"a dead ball", with(rover, goesOn, dead(1, 3)), events(peg(1)), to(dead(3), peggedOut(1), ended(0))},
		{"another ball behind a hit", rover, events(hit(1), peg(3)), to(peggedOut(3), croquetOf(1))},
		{"another ball in a half bisque", with(rover, halved), events(peg(1)), to(peggedOut(1), ended(0))},
		{"the partner in a half bisque", with(rover, halved), events(peg(2)), to(ended(0))},
		{"the ball of which croquet is taken", with(rover, croquetOf(1)), events(peg(1)), to(peggedOut(1), goesOn)},
		{"where there are no peels", with(turnOf(api.CodeFormer), points(12, 12, 1, 12)), events(peg(1)), to(peggedOut(1), ended(none))},
		{"twice", rover, events(peg(1), peg(1), hoop(1), hit(1), off(1)), to(peggedOut(1), ended(0))},

		{"the roquet", rover, events(hit(1), peg(1)), to(peggedOut(1), goesOn)},
		{"the roquet, and then a hit", rover, events(hit(1), peg(1), hit(3)), to(peggedOut(1), goesOn)},
		{"the roquet, and then the peg", rover, events(hit(1), peg(1), peg(0)), to(peggedOut(1), peggedOut(0), ended(none))},
		{"the roquet in a croquet stroke", with(rover, croquetOf(3)), events(hit(1), peg(1)), to(dead(3), peggedOut(1), goesOn)},
		{"a ball behind the roquet", rover, events(hit(1), peg(2), hit(3)), to(peggedOut(2), croquetOf(1))},
		{"a ball before a roquet", rover, events(peg(2), hit(3)), to(peggedOut(2), croquetOf(3))},
	})
}

// P5.3: where it is so, a ball waits until its partner has run all hoops, too.
func TestPegsOfPartners(t *testing.T) {
	former := turnOf(api.CodeFormer)
	checkStrokes(t, []stroke{
		{"the partner is on its way", with(former, points(12, 12, 11, 12)), events(peg(0)), to(ended(none))},
		{"the partner is a rover", with(former, points(12, 12, 12, 12)), events(peg(0)), to(peggedOut(0), ended(none))},
		{"the partner is pegged out", with(former, points(12, 12, 13, 12)), events(peg(0)), to(peggedOut(0), won(0))},
		{"another ball, whose partner is on its way", with(former, points(12, 12, 12, 11)), events(peg(1)), to(ended(none))},
		{"another ball, whose partner is a rover", with(former, points(12, 12, 1, 12)), events(peg(1)), to(peggedOut(1), ended(none))},
		{"another ball, whose partner is pegged out", with(former, points(12, 12, 1, 13)), events(peg(1)), to(peggedOut(1), won(1))},
		{"both, one after another", with(former, points(12, 12, 12, 1)), events(peg(2), peg(0)), to(peggedOut(2), peggedOut(0), won(0))},
		{"by other codes", with(turnOf(api.CodeAdvanced), points(12, 12, 0, 12)), events(peg(0)), to(peggedOut(0), ended(none), func(g *api.Game) { g.Lift[1] = false })},
	})
}

// P5.3: a ball that leaves the lawn ends the turn only in a croquet stroke.
func TestOffs(t *testing.T) {
	checkStrokes(t, []stroke{
		{"the striker's ball", open, events(off(0)), to(ended(0))},
		{"the striker's ball behind a roquet", open, events(hit(1), off(0)), to(croquetOf(1))},
		{"the striker's ball before a roquet", open, events(off(0), hit(1)), to(croquetOf(1))},
		{"the striker's ball before a hoop", open, events(off(0), hoop(0)), to(scored(0), goesOn)},
		{"the roquet", open, events(hit(1), off(1)), to(croquetOf(1))},
		{"another ball", going, events(hit(1), off(3)), to(croquetOf(1))},

		{"the ball of which croquet is taken", taking, events(off(1)), to(ended(0))},
		{"it, behind a hoop", taking, events(hoop(0), off(1)), to(scored(0), ended(0))},
		{"it, before a hoop", taking, events(off(1), hoop(0)), to(scored(0), ended(0))},
		{"it, behind a roquet", taking, events(hit(2), off(1)), to(ended(0))},
		{"it, before a roquet", taking, events(off(1), hit(2)), to(ended(0))},
		{"it, roqueted again", taking, events(hoop(0), hit(1), off(1)), to(scored(0), ended(0))},
		{"it, pegged out before", with(rover, croquetOf(1)), events(peg(1), off(1)), to(peggedOut(1), goesOn)},
		{"it, pegged out behind", with(rover, croquetOf(1)), events(off(1), peg(1)), to(peggedOut(1), ended(0))},

		{"the striker's ball in a croquet stroke", taking, events(off(0)), to(ended(0))},
		{"the striker's ball in a croquet stroke, before a hoop", taking, events(off(0), hoop(0)), to(scored(0), ended(0))},
		{"the striker's ball in a croquet stroke, before a roquet", taking, events(off(0), hit(2)), to(ended(0))},
		{"the striker's ball in a croquet stroke, behind a hoop", taking, events(hoop(0), off(0)), to(scored(0), dead(), goesOn)},
		{"the striker's ball in a croquet stroke, behind a roquet", taking, events(hit(2), off(0)), to(dead(1, 3), croquetOf(2))},
		{"the striker's ball in a croquet stroke, behind a dead ball", taking, events(hit(1), off(0)), to(ended(0))},
		{"the striker's ball in a croquet stroke, behind a roquet that is pegged out", with(rover, croquetOf(3)), events(hit(1), peg(1), off(0)), to(dead(3), peggedOut(1), goesOn)},
		{"the striker's ball in a croquet stroke, pegged out", with(rover, croquetOf(1)), events(peg(0), off(0)), to(peggedOut(0), ended(none))},
		{"the striker's ball in a half bisque, behind a hoop that does not count", with(taking, halved), events(hoop(0), off(0)), to(ended(0))},
		{"another ball in a croquet stroke", taking, events(off(2), off(3)), to(dead(1, 3), goesOn)},
		{"another ball in a croquet stroke, and the roquet", taking, events(hit(2), off(2)), to(dead(1, 3), croquetOf(2))},
	})
}

// P5.3: a fault undoes the stroke, and ends the turn.
func TestFaults(t *testing.T) {
	checkStrokes(t, []stroke{
		{"alone", open, events(fault()), to(ended(0))},
		{"of any ball", open, events(event(api.EventFault, -99)), to(ended(0))},
		{"of a ball that is not in play", with(open, points(2, 13, 3, 4)), events(event(api.EventFault, 1)), to(ended(0))},
		{"behind a hoop", with(going, dead(1)), events(hoop(0), hit(1), fault()), to(ended(0))},
		{"behind a peel", open, events(hoop(2), hoop(3), fault()), to(ended(0))},
		{"in a croquet stroke", taking, events(hit(2), fault()), to(ended(0))},
		{"behind the peg", rover, events(peg(1), peg(0), fault()), to(ended(0))},
		{"behind the end of the game", with(rover, points(12, 1, 13, 1)), events(peg(0), hit(1), fault()), to(ended(0))},
		{"behind the other side's end", with(rover, points(12, 13, 1, 12)), events(peg(3), fault()), to(ended(0))},
		{"in a half bisque", with(halfway, goesOn), events(fault()), to(ended(0))},
	})
}

// P5.3, P5.11: the game is over when both balls of a side are pegged out; what comes behind does nothing.
func TestOver(t *testing.T) {
	last := with(rover, points(12, 12, 13, 12))
	lost := with(rover, points(12, 13, 12, 12))
	checkStrokes(t, []stroke{
		{"won", last, events(peg(0)), to(peggedOut(0), won(0))},
		{"won, in a croquet stroke", with(last, croquetOf(1), dead(3)), events(peg(0)), to(peggedOut(0), won(0))},
		{"won, and more", last, events(peg(0), hit(1), peg(1), peg(3), hoop(3), off(3)), to(peggedOut(0), won(0))},
		{"won with both balls", rover, events(peg(2), peg(0)), to(peggedOut(0), peggedOut(2), won(0))},
		{"won with both balls, the partner behind", rover, events(peg(0), peg(2)), to(peggedOut(0), ended(none))},
		{"won with the partner", with(rover, points(12, 1, 12, 1)), events(peg(2), hit(3), peg(0)), to(peggedOut(2), croquetOf(3))},
		{"the other side's last ball", lost, events(peg(3)), to(peggedOut(3), won(1))},
		{"the other side's last ball, and more", lost, events(peg(3), peg(0), peg(2), hoop(0)), to(peggedOut(3), won(1))},
		{"the other side's last ball as the roquet", lost, events(hit(3), peg(3)), to(peggedOut(3), won(1))},
		{"in a half bisque", with(lost, halved), events(peg(3)), to(peggedOut(3), won(1))},
		{"by six hoops", with(turnOf(api.CodeShort), points(6, 1, 13, 2)), events(peg(0), hoop(1)), to(peggedOut(0), won(0))},
		{"without a peel behind it", with(rover, points(12, 4, 13, 5)), events(peg(0), hoop(1)), to(peggedOut(0), won(0))},
	})
	second := with(turnOf(api.CodeAdvanced), points(1, 12, 2, 13), func(g *api.Game) {
		g.Side, g.Ball, g.Turns, g.Began, g.Lift = 1, 1, 6, 6, [2]bool{false, true}
	})
	checkStrokes(t, []stroke{{"of the side 1, whose turn gives no lift any more", second, events(peg(1)), to(peggedOut(1), won(1))}})
}

// P5.3: strokes of any kind, from any position, as they are defined.
func TestStrokesOfAll(t *testing.T) {
	r := dice(54)
	phases := map[int]int{}
	for range 200000 {
		g := anyGame(r)
		if !inTurn(g) {
			continue
		}
		m := strike(anyEvents(r, g)...)
		want := modelPlay(g, m)
		if next, e := game.Play(g, m); next != want || e != api.OK {
			t.Fatalf("Play(%v, %v): %v, error %d, want %v", g, m, next, e, want)
		}
		phases[want.Phase]++
	}
	for _, phase := range []int{api.PhaseStart, api.PhaseCroquet, api.PhaseContinue, api.PhaseOver} {
		if phases[phase] < 500 {
			t.Errorf("strokes came to the phases %v", phases)
		}
	}
}
