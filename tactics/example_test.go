package tactics_test

import (
	"slices"
	"testing"

	"roquet/api"
	"roquet/tactics"
)

// The chapter's examples.
func TestExamples(t *testing.T) {
	checkChance(t, 8, 10, 2, bounds(666666, 833334))
	half := bounds(500000, 600000)
	checkTogether(t, []api.Chance{half, half}, bounds(250000, 360000), bounds(750000, 840000))
	b, s := exampleBoard(), scene(0, 0, 0)
	l := mustActs(t, b, s)
	if want := []api.Act{runAct(), roquet(0, 0, 0), roquet(0, 0, 1), roquet(0, 1, 0), roquet(0, 1, 1)}; !slices.Equal(l, want) {
		t.Errorf("Acts: %v, want %v", l, want)
	}
	if v := mustWorth(t, b, s, runAct()); v != sure(500000) {
		t.Errorf("Worth of ActRun: %v", v)
	}
	if v := mustWorth(t, b, s, roquet(0, 0, 1)); v != sure(855000) {
		t.Errorf("Worth of ActRoquet: %v", v)
	}
	checkBest(t, "example", b, s, roquet(0, 0, 1), sure(855000))
	if v := mustValue(t, b, s); v != sure(855000) {
		t.Errorf("Value: %v", v)
	}
	checkPlan(t, "example", b, s, roquet(0, 0, 1), runAct())
}

// The example of README.md.
func TestReadme(t *testing.T) {
	hit, e := tactics.Chance(8, 10, 2)
	if e != api.OK || hit != bounds(666666, 833334) {
		t.Errorf("Chance: %v, error %d", hit, e)
	}
	both, e := tactics.All([]api.Chance{hit, hit})
	if e != api.OK || both != bounds(444443, 694446) {
		t.Errorf("All: %v, error %d", both, e)
	}
	near, far := api.Chance{Lo: 900000, Hi: 950000}, api.Chance{Lo: 500000, Hi: 600000}
	b := api.Board{Wide: 2, Long: 1, Hoops: []int{1}, Run: [api.MaxEdge]api.Chance{near, far}, Hit: [api.MaxEdge]api.Chance{near, hit}}
	s := api.Scene{At: 0, Balls: []int{0}, Dead: []bool{false}}
	plan, e := tactics.Plan(b, s)
	if e != api.OK || !slices.Equal(plan, []api.Act{{Kind: api.ActRoquet, Ball: 0, Send: 0, To: 1}, {Kind: api.ActRun}}) {
		t.Errorf("Plan: %v, error %d", plan, e)
	}
	value, e := tactics.Value(b, s)
	if e != api.OK || value != bounds(810000, 902500) {
		t.Errorf("Value: %v, error %d", value, e)
	}
	leave, _, e := tactics.Leave(b, []api.Scene{s, {At: 0, Balls: []int{1}, Dead: []bool{false}}})
	if e != api.OK || leave != 1 {
		t.Errorf("Leave: %d, error %d", leave, e)
	}
}
