package turf

import (
	"testing"

	"roquet/api"
)

// P1.7: nothing passes a ring all of whose points are the same. No valid disc has such a ring, as its points 0 and 8 are apart.
func TestPassesOfOnePoint(t *testing.T) {
	for _, p := range []api.Point{{}, {X: 3, Y: -4}} {
		l := ring(api.Disc{At: p, R: 0})
		for range sides(l) {
			t.Errorf("the ring %v has a side", l)
		}
		for _, w := range []api.Point{{}, {X: 5}, {X: -2, Y: 9}} {
			a, b := api.Point{X: p.X - w.X, Y: p.Y - w.Y}, api.Point{X: p.X + w.X, Y: p.Y + w.Y}
			if passes(a, b, l) {
				t.Errorf("%v to %v passes the ring %v", a, b, l)
			}
		}
	}
	if passes(api.Point{}, api.Point{}, nil) {
		t.Error("a segment passes a ring of no points")
	}
}

// P1.7: the sides of a ring leave out points that are the same, and can be broken off.
func TestSides(t *testing.T) {
	p, q, r := api.Point{}, api.Point{X: 4}, api.Point{Y: 4}
	var got [][2]api.Point
	for from, to := range sides([]api.Point{p, p, q, q, q, r, p}) {
		got = append(got, [2]api.Point{from, to})
	}
	if len(got) != 3 || got[0] != [2]api.Point{p, q} || got[1] != [2]api.Point{q, r} || got[2] != [2]api.Point{r, p} {
		t.Errorf("sides: %v", got)
	}
	for from := range sides([]api.Point{p, q, r}) {
		if from != p {
			t.Errorf("the first side begins at %v", from)
		}
		break
	}
}
