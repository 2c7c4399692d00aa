package double_test

import (
	"testing"

	"roquet/api"
	"roquet/double"
)

// examples returns the passes of the chapter's examples.
func examples() []api.Pass {
	return []api.Pass{
		{Game: 0, Rank: 1, Asked: 0, Long: 20, A: at(0, 0), B: at(10000, 0), R: 3000},
		{Game: 1, Rank: 2, Asked: 5, Long: 10, A: at(5000, -5000), B: at(5000, 5000), R: 3000},
		{Game: 0, Rank: 1, Asked: 0, Long: 20, A: at(0, 9000), B: at(0, 20000), R: 3000},
		{Game: 1, Rank: 2, Asked: 0, Long: 30, A: at(4000, 9000), B: at(4000, 20000), R: 1500},
	}
}

// The chapter's examples.
func TestExamples(t *testing.T) {
	l := examples()
	for _, x := range []struct {
		i, k int
		want bool
	}{{0, 1, true}, {2, 3, true}, {0, 2, false}, {0, 3, false}, {1, 2, false}} {
		checkMeet(t, "example", l[x.i], l[x.k], x.want)
	}
	checkSlots(t, "example", l, slot(15, 1), slot(5, none), slot(45, 3), slot(15, none))
	if w, e := double.Waited(l); w != [2]int64{25, 0} || e != api.OK {
		t.Errorf("Waited: %v, error %d", w, e)
	}
	if n, e := double.InTime(l, [2]int64{21, 15}); n != [2]int{2, 1} || e != api.OK {
		t.Errorf("InTime: %v, error %d", n, e)
	}
}

// The example of README.md.
func TestReadme(t *testing.T) {
	list := []api.Pass{
		{Game: 0, Rank: 1, Asked: 0, Long: 20, A: api.Point{X: 0, Y: 0}, B: api.Point{X: 10000, Y: 0}, R: 3000},
		{Game: 1, Rank: 2, Asked: 5, Long: 10, A: api.Point{X: 5000, Y: -5000}, B: api.Point{X: 5000, Y: 5000}, R: 3000},
	}
	slots, e := double.Arrange(list)
	if e != api.OK || slots[0] != (api.Slot{Start: 15, By: 1}) || slots[1] != (api.Slot{Start: 5, By: api.NoBall}) {
		t.Errorf("Arrange: %v, error %d", slots, e)
	}
	if waited, e := double.Waited(list); e != api.OK || waited != [2]int64{15, 0} {
		t.Errorf("Waited: %v, error %d", waited, e)
	}
	if inTime, e := double.InTime(list, [2]int64{1, 5}); e != api.OK || inTime != [2]int{1, 0} {
		t.Errorf("InTime: %v, error %d", inTime, e)
	}
	others := []api.Disc{{At: api.Point{X: 5000, Y: 5900}, R: 2944}, {At: api.Point{X: 5000, Y: 5944}, R: 2944}}
	if inWay, e := double.InWay(list[0], others); e != api.OK || len(inWay) != 1 || inWay[0] != 0 {
		t.Errorf("InWay: %v, error %d", inWay, e)
	}
	if e := double.CheckColours([4]int{0, 1, 2, 3}, [4]int{4, 5, 6, 7}); e != api.OK {
		t.Errorf("CheckColours: error %d", e)
	}
}
