package mistake_test

import (
	"testing"

	"roquet/api"
	"roquet/mistake"
)

// P7.4: clean records.
func TestClean(t *testing.T) {
	on := turnOf(api.CodeAssociation)
	start := startOf(api.CodeAssociation)
	other, croquet, out := otherBall(2, hoop(2)), notRoqueted(1, hoop(2)), outOfTurn(0, hoop(0))
	for _, x := range []struct {
		name    string
		g       api.Game
		l, want []api.Deed
	}{
		{"nothing", on, nil, nil},
		{"nothing, where the game is not in a turn", start, []api.Deed{}, nil},
		{"moves", on, deeds(strike(hit(1)), strike(), pass()), deeds(strike(hit(1)), strike(), pass())},
		{"wrong strokes", on, deeds(other, croquet), deeds(other, croquet)},
		{"another ball that was claimed", on, deeds(other, claim(0)), deeds(pass())},
		{"croquet that was claimed", on, deeds(notRoqueted(1), strike(), claim(0)), deeds(pass())},
		{"a stroke out of turn that was claimed", start, deeds(out, strike(), claim(0)), nil},
		{"moves before and behind a claim", on, deeds(strike(hoop(0)), other, strike(), claim(1), choose(1), strike()), deeds(strike(hoop(0)), pass(), choose(1), strike())},
		{"moves before and behind a claim out of turn", start, deeds(choose(1), strike(), outOfTurn(1, hoop(1)), claim(2), choose(0)), deeds(choose(1), strike(), choose(0))},
		{"a late claim", start, deeds(out, strike(hoop(0)), strike(hoop(0)), claim(0), pass()), deeds(out, strike(hoop(0)), strike(hoop(0)), pass())},
		{"one of two", on, deeds(other, croquet, claim(1), choose(1)), deeds(other, pass(), choose(1))},
		{"the second, and then the first", on, deeds(other, croquet, claim(1), claim(0)), deeds(pass())},
		{"the second, and then the first, and moves", on, deeds(other, croquet, claim(1), choose(1), claim(0), choose(3)), deeds(pass(), choose(3))},
		{"the second, and then the first, out of turn", start, deeds(out, notRoqueted(1), claim(1), claim(0), choose(3)), deeds(choose(3))},
		{"the first, and then a later one", on, deeds(other, claim(0), choose(1), otherBall(3), claim(3)), deeds(pass(), choose(1), pass())},
		{"three, one behind another", on, deeds(other, croquet, otherBall(0), claim(2), claim(1), claim(0)), deeds(pass())},
		{"three, but for the first", on, deeds(other, croquet, otherBall(0), claim(2), claim(1)), deeds(other, pass())},
		{"a late one, and then one before it", on, deeds(otherBall(2), outOfTurn(2, hoop(2)), strike(hoop(2)), strike(hoop(2)), claim(1), claim(0)), deeds(pass())},
	} {
		c := mustClean(t, x.g, x.l)
		if !sameDeeds(c, x.want) {
			t.Errorf("%s: Clean(%v, %v): %v, want %v", x.name, x.g, x.l, c, x.want)
		}
	}
}

// P7.4: a clean record has all that belongs to the kinds of its deeds, and nothing else.
func TestCleanLitter(t *testing.T) {
	g := with(startOf(api.CodeAdvanced), func(g *api.Game) { g.Lift[1] = true })
	lift := moved(api.Move{Kind: api.MoveChoose, Ball: 3, Lift: true})
	want := deeds(lift, strike(hoop(3), hoop(0)), otherBall(1, hoop(1), hit(2)), strike(off(2)), outOfTurn(3, hoop(3)), notRoqueted(0, off(1)))
	l := copyOf(want)
	for i := range l {
		l[i].About = 9
		if l[i].Kind == api.DeedMove {
			l[i].Wrong, l[i].Ball, l[i].Events = 9, 9, []api.Event{hit(9)}
		} else {
			l[i].Move = api.Move{Kind: 9, Ball: 9, Lift: true, Events: []api.Event{hit(9)}}
		}
	}
	if c := mustClean(t, g, l); !sameDeeds(c, want) {
		t.Errorf("Clean(%v, %v): %v, want %v", g, l, c, want)
	}
}

// P7.4: the game that would have been is that of the clean record; it is not known as long as a wrong stroke counts.
func TestWould(t *testing.T) {
	on := turnOf(api.CodeShort)
	start := startOf(api.CodeShort)
	for _, x := range []struct {
		name string
		g    api.Game
		l    []api.Deed
		want api.Game
		e    api.Errno
	}{
		{"nothing", on, nil, on, api.OK},
		{"moves", on, deeds(strike(hit(1)), pass()), mustPlay(t, on, strike(hit(1)), pass()), api.OK},
		{"a wrong stroke", on, deeds(otherBall(2)), api.Game{}, api.ErrNone},
		{"a wrong stroke behind moves", on, deeds(strike(), outOfTurn(0), choose(1)), api.Game{}, api.ErrNone},
		{"a wrong stroke with a late claim", start, deeds(outOfTurn(0, hoop(0)), strike(hoop(0)), strike(), claim(0)), api.Game{}, api.ErrNone},
		{"one of two", on, deeds(otherBall(2), outOfTurn(2), claim(1)), api.Game{}, api.ErrNone},
		{"both", on, deeds(otherBall(2), outOfTurn(2), claim(1), claim(0)), mustPlay(t, on, pass()), api.OK},
		{"both at once", on, deeds(otherBall(2), outOfTurn(2), claim(0), choose(1)), mustPlay(t, on, pass(), choose(1)), api.OK},
		{"out of turn", start, deeds(outOfTurn(2, hoop(2)), claim(0), choose(3)), mustPlay(t, start, choose(3)), api.OK},
	} {
		if would, e := mistake.Would(x.g, x.l); would != x.want || e != x.e {
			t.Errorf("%s: Would(%v, %v): %v, error %d, want %v, error %d", x.name, x.g, x.l, would, e, x.want, x.e)
		}
	}
}

// P7.4: any records have the clean ones of the definitions.
func TestCleanOfAll(t *testing.T) {
	r := dice(73)
	known, unknown := 0, 0
	for range 4000 {
		g, l := anyRecord(t, r, 40)
		m, _, _ := modelReplay(g, l)
		want, clean := m.clean(), mustClean(t, g, l)
		if !sameDeeds(clean, want) {
			t.Fatalf("Clean(%v, %v): %v, want %v", g, l, clean, want)
		}
		next, wanted := g, api.OK
		for _, d := range want {
			if d.Kind == api.DeedWrong {
				next, wanted = api.Game{}, api.ErrNone
				break
			}
			next = mustPlay(t, next, d)
		}
		if wanted == api.OK {
			known++
		} else {
			unknown++
		}
		if would, e := mistake.Would(g, l); would != next || e != wanted {
			t.Fatalf("Would(%v, %v): %v, error %d, want %v, error %d", g, l, would, e, next, wanted)
		}
	}
	if known < 500 || unknown < 500 {
		t.Errorf("%d games that would have been, %d that would not", known, unknown)
	}
}

// R5: a clean record shares no memory with the record, nor with another one.
func TestCleanMemory(t *testing.T) {
	g := turnOf(api.CodeAssociation)
	l := deeds(strike(hoop(0), hit(1)), strike(), otherBall(2, hoop(2), hit(3)))
	before := copyOf(l)
	one, two := mustClean(t, g, l), mustClean(t, g, l)
	one[0].Move.Events[0], one[2].Events[1] = off(3), off(3)
	_ = append(one[2].Events[:1], off(1))
	if !sameDeeds(l, before) || !sameDeeds(two, before) {
		t.Errorf("after a change of a clean record: %v and %v, want %v", l, two, before)
	}
	l[0].Move.Events[0], l[2].Events[0] = off(2), off(2)
	if !sameDeeds(two, before) {
		t.Errorf("after a change of the record: %v, want %v", two, before)
	}
	if _, e := mistake.Would(g, before); e != api.ErrNone || !sameDeeds(before, two) {
		t.Errorf("after Would: %v, error %d, want %v", before, e, two)
	}
}
