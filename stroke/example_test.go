package stroke_test

import (
	"testing"

	"roquet/api"
	"roquet/stroke"
)

// drive is the blow of the examples.
func drive() api.Blow {
	return api.Blow{Ball: 0, Aim: at(0, 1), Power: 200000, Kind: api.BlowDrive}
}

// The chapter's examples.
func TestExamples(t *testing.T) {
	g := ground(2, 10000)
	lie, e := stroke.Lie(g, []api.Point{at(50000, 60000), at(80000, 60000)})
	if e != api.OK {
		t.Fatalf("Lie: error %d", e)
	}
	s, knocks := mustStrike(t, g, lie, drive())
	if s.Motions[0].M != at(0, 200000) || len(knocks) != 0 {
		t.Errorf("Strike: %v, %v", s, knocks)
	}
	next, _ := mustTick(t, g, s)
	if next.Motions[0] != (api.Motion{At: at(50000, 60106), M: at(0, 190000), Rest: at(0, -12800)}) {
		t.Errorf("Tick: %v", next)
	}
	end, knocks := mustPlay(t, g, s, 100)
	if end.Motions[0] != (api.Motion{At: at(50000, 61056), Rest: at(0, -12800)}) || end.Tick != 20 || len(knocks) != 0 {
		t.Errorf("Play: %v, %v", end, knocks)
	}
}

// The chapter's example of two balls that are in contact.
func TestExampleContact(t *testing.T) {
	g := ground(2, 10000)
	s, knocks := mustStrike(t, g, state(ball{at: at(50000, 60000)}, ball{at: at(50000, 65892)}), drive())
	if s.Motions[0].M != at(0, 50012) || s.Motions[1].M != at(0, 179988) {
		t.Errorf("Strike: %v", s)
	}
	if !sameList(knocks, []api.Knock{{Kind: api.KnockBall, Ball: 0, Other: 1}}) {
		t.Errorf("Strike: knocks %v", knocks)
	}
}

// The chapter's example of a hoop.
func TestExampleRuns(t *testing.T) {
	track := []api.Point{at(50000, 36000), at(50000, 38000), at(50000, 43000)}
	if runs, e := stroke.Runs(green(10000), 0, true, 2946, track); !runs || e != api.OK {
		t.Errorf("Runs: %v, %d", runs, e)
	}
}
