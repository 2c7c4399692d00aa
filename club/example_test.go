package club_test

import (
	"slices"
	"testing"

	"roquet/api"
	"roquet/club"
	"roquet/lawn"
)

// The chapter's examples, one after another.
func TestExamples(t *testing.T) {
	m := mustNew(t, setup())
	first, second := choose(0, at(50000, 5000)), strike(at(0, 1), 200000, tap(0, 1))
	done(t, "the first choice", m, first, api.Move{Kind: api.MoveChoose}, nil, at(50000, 5000), at(0, 0), at(0, 0), at(0, 0))
	x := done(t, "the first stroke", m, second, struck(), nil, at(50000, 6056), at(0, 0), at(0, 0), at(0, 0))
	if g := m.Game(); x.Ticks != 20 || x.Knocks != 0 || g.Phase != api.PhaseStart || g.Side != 1 {
		t.Errorf("the first stroke: %v, %v", x, g)
	}
	refused(t, "no baulk", m, choose(1, at(50001, 5000)), api.ErrRule)
	done(t, "the second choice", m, choose(1, at(30000, 5000)), api.Move{Kind: api.MoveChoose, Ball: 1}, nil)
	done(t, "a fault", m, strike(at(0, 1), 200000, double()...), struck(fault()), []int{10}, at(50000, 6056), at(30000, 5000), at(0, 0), at(0, 0))
	if g := m.Game(); g.Phase != api.PhaseStart || g.Side != 0 {
		t.Errorf("the fault: %v", g)
	}
	const text = "choose 0 50000 5000\nstroke 0 0 0 1 200000 1\nmark 0 0 0 1\n"
	if s, e := club.Text(doings(first, second)); s != text || e != api.OK {
		t.Errorf("Text: %q, error %d", s, e)
	}
	if l, e := club.Parse(text); !sameDoings(l, doings(first, second)) || e != api.OK {
		t.Errorf("Parse: %v, error %d", l, e)
	}
}

// The example of README.md.
func TestReadme(t *testing.T) {
	const green = "lawn green 100000 200000 5000\n" +
		"hoop 50000 40000 6000 500 y\n" +
		"peg 50000 100000 1200\n" +
		"cells 1 1\n" +
		"cell 100 0 0\n"
	l, e := lawn.Parse(green)
	if e != api.OK {
		t.Fatal(e)
	}
	s := api.Setup{
		Ground: api.Ground{Lawn: l, Balls: slices.Repeat([]api.Ball{{Mass: 450, Radius: 2946}}, 4), Bounce: api.Bounce{Rebound: 800}},
		Code:   api.CodeShort,
		Course: slices.Repeat([]api.Gate{{Hoop: 0, Forward: true}, {Hoop: 0, Forward: false}}, 3),
		Book:   laws(),
		Limit:  3,
	}
	m := mustNew(t, s)
	list := []api.Doing{
		{Kind: api.DoChoose, Ball: 0, At: api.Point{X: 50000, Y: 5000}},
		{Kind: api.DoStroke, Aim: api.Point{Y: 1}, Power: 130000, Blow: api.BlowDrive},
		{Kind: api.DoStroke, Aim: api.Point{Y: -1}, Power: 130000, Blow: api.BlowDrive, Marks: double()},
	}
	mustDo(t, m, list[0])
	x := done(t, "the first hoop", m, list[1], struck(hoop(0)), nil, at(50000, 51908), at(0, 0), at(0, 0), at(0, 0))
	if x.Ticks != 1300 {
		t.Errorf("the first hoop: %v", x)
	}
	done(t, "a fault", m, list[2], struck(hoop(0), fault()), []int{10}, at(50000, 51908), at(0, 0), at(0, 0), at(0, 0))
	text := mustText(t, list)
	read, e := club.Parse(text)
	if e != api.OK {
		t.Fatal(e)
	}
	again, n, e := club.Replay(s, read)
	if e != api.OK || n != 3 || !sameStates(stateOf(again), stateOf(m)) {
		t.Errorf("Replay: %d, error %d, %v, want %v", n, e, stateOf(again), stateOf(m))
	}
	if wired, e := m.Wired(0, 1); wired || e != api.ErrState {
		t.Errorf("Wired: %t, error %d", wired, e)
	}
	if _, e := m.Sheet(1, 5, api.Player{Name: "ann"}, api.Player{Name: "bob"}); e != api.ErrState {
		t.Errorf("Sheet: error %d", e)
	}
}
