package game_test

import (
	"math"
	"testing"

	"roquet/api"
	"roquet/game"
)

// P5.1: the laws of the codes are those of the table, and there are no other codes.
func TestLaws(t *testing.T) {
	for code, want := range modelLaws {
		if c, e := game.Laws(code); c != want || e != api.OK {
			t.Errorf("Laws(%d): %v, error %d", code, c, e)
		}
	}
	for _, code := range []int{math.MinInt, -1, 4, math.MaxInt} {
		if c, e := game.Laws(code); c != (api.Code{}) || e != api.ErrRange {
			t.Errorf("Laws(%d): %v, error %d", code, c, e)
		}
	}
}

// P5.1: what a new position is; halves are possible up to the limit, and only where bisques are.
func TestNew(t *testing.T) {
	for code := range 4 {
		for _, halves := range [][2]int{{0, 0}, {3, 0}, {0, 1}, {40, 40}, {41, 0}, {0, 41}, {-1, 0}, {0, -1}, {math.MaxInt, 0}, {0, math.MinInt}} {
			most := 0
			if modelLaws[code].Bisques {
				most = 40
			}
			want, wantError := api.Game{}, api.ErrArg
			if within(halves[0], 0, most) && within(halves[1], 0, most) {
				want = api.Game{Code: code, Ball: none, Taken: none, Last: none, Winner: -1, Halves: halves}
				wantError = api.OK
			}
			if g, e := game.New(code, halves); g != want || e != wantError {
				t.Errorf("New(%d, %v): %v, error %d, want %v, error %d", code, halves, g, e, want, wantError)
			}
		}
	}
}

// P5.1: that there is no such code comes before all that is wrong with the halves.
func TestNewWithoutCode(t *testing.T) {
	for _, code := range []int{math.MinInt, -1, 4, math.MaxInt} {
		for _, halves := range [][2]int{{0, 0}, {3, 3}, {-1, 0}, {0, 41}} {
			if g, e := game.New(code, halves); g != (api.Game{}) || e != api.ErrRange {
				t.Errorf("New(%d, %v): %v, error %d", code, halves, g, e)
			}
		}
	}
}
